import PyProof.Rows.All
import Wide.All
import OpenK.AllK
import Wide.FinOn
import HandS.ForMost
import HandS.TupSets
import HandS.Strs
import HandS.SetKeys
import KE.KeyNested
import KE.KDictKeyed
import HandS.DictComp
import HandS.Walk
import PyProof.ReprRoads
import HandS.ExcInit
import HandS.ExcOwn
import HandS.ExcBuiltin
import HandS.ExcField
import HandS.IsInst
import KE.KExcIs
import HandS.OwnEq
import PyProof.InstNe
import KE.SortData
import HandS.TryOnly
import KE.GoesMore
import HandS.Style
import KE.DataMinMax
import KE.DataEq
import HandS.WordsExc
import HandS.Dict
import KE.KDictPairs
import KE.KDictCopyH
import HandS.Deep
import HandS.Base
import HandS.Call
import HandS.Exc
import KE.RegKIsAll
import PySem.Challenge.RW_crossparity_k57_records_of_subgraphs
set_option Elab.async false
set_option linter.all false
set_option maxRecDepth 100000
set_option maxHeartbeats 4000000
/-! Tables of sets with up to 512 places -/
namespace CP
open PySem PySem.Spec PyProof.Rows L2
def MaskG (m : Nat) : Prop := m = 7 ∨ m = 31 ∨ m = 127 ∨ m = 511
/-- the numbers met from 0, as bits -/
def met (m : Nat) : Nat → Nat → Nat → Nat
  | 0, _, acc => acc
  | k + 1, c, acc => met m k ((c * 5 + 1) % (m + 1)) (acc ||| 2 ^ c)
theorem met_bit (m : Nat) : ∀ (k a acc j : Nat), (met m k (lcgN m a) acc).testBit j = true → acc.testBit j = true ∨ ∃ b, a ≤ b ∧ b < a + k ∧ lcgN m b = j
  | 0, a, acc, j, h => .inl h
  | k + 1, a, acc, j, h => by
    have h' : (met m k (lcgN m (a + 1)) (acc ||| 2 ^ lcgN m a)).testBit j = true := h
    rcases met_bit m k (a + 1) _ j h' with c | ⟨b, b1, b2, b3⟩
    · rw [Nat.testBit_or, Bool.or_eq_true] at c
      rcases c with c | c
      · exact .inl c
      · rw [Nat.testBit_two_pow] at c
        exact .inr ⟨a, Nat.le_refl _, by omega, of_decide_eq_true c⟩
    · exact .inr ⟨b, by omega, by omega, b3⟩
theorem met_all {m : Nat} (hm : MaskG m) : met m (m + 1) 0 0 = 2 ^ (m + 1) - 1 := by
  rcases hm with rfl | rfl | rfl | rfl <;> decide +kernel
theorem met_back {m : Nat} (hm : MaskG m) : lcgN m (m + 1) = 0 := by
  rcases hm with rfl | rfl | rfl | rfl <;> decide +kernel
theorem odd_mask {m : Nat} (hm : MaskG m) : m % 2 = 1 := by
  rcases hm with rfl | rfl | rfl | rfl <;> rfl
theorem from0 {m : Nat} (hm : MaskG m) {j : Nat} (hj : j ≤ m) : ∃ b, b ≤ m ∧ lcgN m b = j := by
  have e : (met m (m + 1) (lcgN m 0) 0).testBit j = true := by
    show (met m (m + 1) 0 0).testBit j = true
    rw [met_all hm, Nat.testBit_two_pow_sub_one]
    exact decide_eq_true (by omega)
  rcases met_bit m (m + 1) 0 0 j e with c | ⟨b, _, b2, b3⟩
  · simp at c
  · exact ⟨b, by omega, b3⟩
theorem again {m : Nat} (hm : MaskG m) : ∀ k, lcgN m (m + 1 + k) = lcgN m k
  | 0 => met_back hm
  | k + 1 => by
    have ih := again hm k
    show ((lcgN m (m + 1 + k)) * 5 + 1) % (m + 1) = ((lcgN m k) * 5 + 1) % (m + 1)
    rw [ih]
theorem from_any {m : Nat} (hm : MaskG m) {i j : Nat} (hi : i ≤ m) (hj : j ≤ m) : ∃ k, k ≤ m ∧ lcgI m i k = j := by
  obtain ⟨a, ha, rfl⟩ := from0 hm hi
  obtain ⟨b, hb, rfl⟩ := from0 hm hj
  by_cases c : a ≤ b
  · exact ⟨b - a, by omega, by rw [lcgN_add, Nat.add_sub_cancel' c]⟩
  · refine ⟨m + 1 + b - a, by omega, ?_⟩
    rw [lcgN_add, Nat.add_sub_cancel' (by omega), again hm]
theorem runs_meet {m : Nat} (hm : MaskG m) (h : Int) {j : Nat} (hj : j ≤ m) : ∃ n, n ≤ m + 12 ∧ runI m (SetTable.bits h) n = j := by
  obtain ⟨k, hk, rfl⟩ := from_any hm (runI_le m (SetTable.bits h) 12) hj
  refine ⟨12 + k, by omega, runI_tail (bits_lt h) k⟩
theorem way_most (m : Nat) (h : Int) (k : Nat) : way m h k ≤ m := by
  have a : SetTable.bits h % (m + 1) ≤ m := Nat.le_of_lt_succ (Nat.mod_lt _ (Nat.succ_pos _))
  have r := runEnd_bd a
  have q := nth_in (m := m) k (runAt m (SetTable.bits h % (m + 1)) (SetTable.bits h))
  have q := q (by show SetTable.bits h % (m + 1) + (SetTable.runEnd m (SetTable.bits h % (m + 1)) - SetTable.bits h % (m + 1)) ≤ m; omega)
  exact Nat.le_trans (Nat.le_add_right _ _) q
theorem ways_meet {m : Nat} (hm : MaskG m) (h : Int) {j : Nat} (hj : j ≤ m) : ∃ k, k < 10 * SetTable.turns m ∧ way m h k = j := by
  obtain ⟨n, hn, e⟩ := runs_meet hm h hj
  obtain ⟨k, hk, q⟩ := run_nth m (SetTable.bits h) n
  refine ⟨k, by unfold SetTable.turns; omega, ?_⟩
  unfold way; rw [q]; exact e
/-- a table in which each place is met from its hash -/
structure TabG (t : SetTable) (hs : List Int) : Prop where
  ris : Ris t.place.toList
  dm : t.dummies = #[]
  sz : t.place.size = hs.length
  mok : MaskG t.mask
  bd : ∀ x ∈ t.place.toList, x ≤ t.mask
  reach : ∀ (i : Nat) (g : Int) (j : Nat), hs[i]? = some g → t.place.toList[i]? = some j → ∃ k, way t.mask g k = j ∧ ∀ c, c < k → way t.mask g c ∈ t.place.toList
theorem TabG.first {t : SetTable} {hs : List Int} (T : TabG t hs) (hl : hs.length ≤ t.mask) (g : Int) : ∃ K, K < 10 * SetTable.turns t.mask ∧ way t.mask g K ∉ t.place.toList ∧ ∀ c, c < K → way t.mask g c ∈ t.place.toList := by
  obtain ⟨j, hj, free⟩ := st_missing t.place.toList (t.mask + 1) (by have := T.sz; rw [Array.length_toList]; omega)
  obtain ⟨k, hk, e⟩ := ways_meet T.mok g (Nat.le_of_lt_succ hj)
  obtain ⟨K, k1, k2, k3⟩ := st_least (p := fun c => way t.mask g c ∉ t.place.toList) k (by rw [e]; exact free)
  exact ⟨K, by omega, k2, fun c hc => Classical.not_not.mp (k3 c hc)⟩
theorem TabG.before {t : SetTable} {hs : List Int} (T : TabG t hs) {g : Int} {K i j : Nat} (hK : way t.mask g K ∉ t.place.toList) (hi : hs[i]? = some g) (hj : t.place.toList[i]? = some j) : ∃ k, k < K ∧ way t.mask g k = j := by
  obtain ⟨k, e, all⟩ := T.reach i g j hi hj
  by_cases c : k < K
  · exact ⟨k, c, e⟩
  · exfalso
    by_cases d : K = k
    · rw [d, e] at hK; exact hK (List.mem_of_getElem? hj)
    · exact hK (all K (by omega))
theorem TabG.put {t : SetTable} {hs : List Int} (T : TabG t hs) {g : Int} {K : Nat} (hK : way t.mask g K ∉ t.place.toList) (occ : ∀ c, c < K → way t.mask g c ∈ t.place.toList) :
    ∃ n, n = SetTable.below t.place (way t.mask g K) ∧ (t.put (way t.mask g K)).2 = n ∧ n ≤ hs.length ∧ TabG (t.put (way t.mask g K)).1 (hs.take n ++ g :: hs.drop n) ∧ (t.put (way t.mask g K)).1.mask = t.mask ∧ (t.put (way t.mask g K)).1.fill = hs.length + 1 := by
  have top := way_most t.mask g K
  generalize hj : way t.mask g K = j at hK top
  obtain ⟨c1, _, _⟩ := below_cut T.ris j
  have lenp : t.place.toList.length = hs.length := by have := T.sz; rw [Array.length_toList]; exact this
  have nl : SetTable.below t.place j ≤ hs.length := by rw [← T.sz]; exact c1
  have new : t.place[SetTable.below t.place j]? ≠ some j := fun e => hK (List.mem_of_getElem? (i := SetTable.below t.place j) (by rw [Array.getElem?_toList]; exact e))
  have lay := put_place t j
  have size : (t.put j).1.place.size = hs.length + 1 := by rw [← Array.length_toList, lay, len_ins _ (by omega), lenp]
  have stay : ∀ {x : Nat}, x ∈ t.place.toList → x ∈ (t.put j).1.place.toList := fun hx => by rw [lay]; exact mem_ins.mpr (.inr hx)
  refine ⟨SetTable.below t.place j, rfl, rfl, nl, ⟨ris_insert T.ris new, put_dm T.dm j, by rw [len_ins _ nl]; exact size, T.mok, fun x hx => ?_, fun i g' j' h1 h2 => ?_⟩, rfl, ?_⟩
  · rw [lay] at hx
    rcases mem_ins.mp hx with rfl | hx
    · exact top
    · exact T.bd x hx
  · rw [lay, tins_get _ (by omega)] at h2
    rw [tins_get hs nl] at h1
    show ∃ k, way t.mask g' k = j' ∧ ∀ c, c < k → way t.mask g' c ∈ (t.put j).1.place.toList
    by_cases a : i < SetTable.below t.place j
    · rw [if_pos a] at h1 h2
      obtain ⟨k, e, q⟩ := T.reach i g' j' h1 h2
      exact ⟨k, e, fun c hc => stay (q c hc)⟩
    · rw [if_neg a] at h1 h2
      by_cases b : i = SetTable.below t.place j
      · rw [if_pos b] at h1 h2
        obtain rfl : g = g' := Option.some.inj h1
        obtain rfl : j = j' := Option.some.inj h2
        exact ⟨K, hj, fun c hc => stay (occ c hc)⟩
      · rw [if_neg b] at h1 h2
        obtain ⟨k, e, q⟩ := T.reach (i - 1) g' j' h1 h2
        exact ⟨k, e, fun c hc => stay (q c hc)⟩
  · show (t.put j).1.place.size + (t.put j).1.dummies.size = hs.length + 1
    rw [size, put_dm T.dm j]; rfl
/-! ### a table laid anew -/
theorem free_met {m : Nat} (hm : MaskG m) (owner : Array (Option Nat)) (g : Int) {j : Nat} (hj : j ≤ m) (hf : oAt owner j = none) :
    ∃ K, SetTable.layClean.free m owner (SetTable.turns m) (SetTable.bits g % (m + 1)) (SetTable.bits g) = some (way m g K) ∧ oAt owner (way m g K) = none ∧ ∀ c, c < K → oAt owner (way m g c) ≠ none := by
  obtain ⟨n, hn, e⟩ := runs_meet hm g hj
  have there : way m g (off m (SetTable.bits g % (m + 1)) (SetTable.bits g) n) = j := by
    unfold way; rw [nth_off, itL_run]; exact e
  obtain ⟨K, k1, k2, k3⟩ := st_least (p := fun c => oAt owner (way m g c) = none) _ (by rw [there]; exact hf)
  refine ⟨K, free_spec m owner (SetTable.turns m) n _ _ K (by unfold SetTable.turns; omega) k1 (fun c hc => ?_) ?_, k2, k3⟩
  · have q := k3 c hc
    cases z : oAt owner (way m g c) with
    | none => exact absurd z q
    | some x => rfl
  · show (oAt owner (way m g K)).isNone = true
    rw [k2]; rfl
theorem own_step {m : Nat} (hm : MaskG m) {done : List Int} {owner : Array (Option Nat)} (W : Own m done owner) (hl : done.length ≤ m) (g : Int) :
    ∃ j, SetTable.layClean.free m owner (SetTable.turns m) (SetTable.bits g % (m + 1)) (SetTable.bits g) = some j ∧ Own m (done ++ [g]) (owner.setIfInBounds j (some done.length)) := by
  obtain ⟨ps, lps, inps⟩ := W.ps
  obtain ⟨z, z1, z2⟩ := st_missing ps (m + 1) (by omega)
  have zf : oAt owner z = none := by
    cases q : oAt owner z with
    | none => rfl
    | some x => exact absurd (inps z (Nat.le_of_lt_succ z1) (by rw [q]; intro u; cases u)) z2
  obtain ⟨K, e1, e2, e3⟩ := free_met hm owner g (Nat.le_of_lt_succ z1) zf
  have top := way_most m g K
  generalize hj : way m g K = j at e1 e2 top
  have insz : j < owner.size := by rw [W.sz]; omega
  have me := oAt_set_self (some done.length) insz
  have grow : ∀ {i : Nat}, oAt owner i ≠ none → oAt (owner.setIfInBounds j (some done.length)) i ≠ none := fun {i} hi => by
    by_cases c : i = j
    · rw [c, me]; intro u; cases u
    · rw [oAt_set_ne _ c]; exact hi
  refine ⟨j, e1, by rw [Array.size_setIfInBounds]; exact W.sz, fun i k hi e => ?_, fun k hk => ?_, j :: ps, by rw [List.length_cons, List.length_append, lps]; rfl, fun i hi e => ?_⟩
  · by_cases c : i = j
    · rw [c, me] at e
      obtain rfl : done.length = k := Option.some.inj e
      exact ⟨g, K, by rw [List.getElem?_append_right (Nat.le_refl _), Nat.sub_self]; rfl, by rw [c]; exact hj, fun c hc => grow (e3 c hc)⟩
    · rw [oAt_set_ne _ c] at e
      obtain ⟨g', K', a1, a2, a3⟩ := W.at_ i k hi e
      exact ⟨g', K', by rw [List.getElem?_append_left (List.getElem?_eq_some_iff.mp a1).1]; exact a1, a2, fun c hc => grow (a3 c hc)⟩
  · by_cases c : k < done.length
    · obtain ⟨i, hi, e⟩ := W.all k c
      exact ⟨i, hi, by rw [oAt_set_ne _ (fun u => by rw [u, e2] at e; cases e)]; exact e⟩
    · have ek : k = done.length := by rw [List.length_append] at hk; simp at hk; omega
      exact ⟨j, top, by rw [ek]; exact me⟩
  · by_cases c : i = j
    · rw [c]; exact List.mem_cons_self
    · rw [oAt_set_ne _ c] at e
      exact List.mem_cons_of_mem _ (inps i hi e)
theorem own_all {m : Nat} (hm : MaskG m) : ∀ (rest done : List Int) (owner : Array (Option Nat)), Own m done owner → done.length + rest.length ≤ m → ∃ o2, rest.foldl (stepF m) (some (owner, done.length)) = some (o2, done.length + rest.length) ∧ Own m (done ++ rest) o2
  | [], done, owner, W, _ => ⟨owner, rfl, by rw [List.append_nil]; exact W⟩
  | g :: rest, done, owner, W, hl => by
    simp only [List.length_cons] at hl
    obtain ⟨j, e, W2⟩ := own_step hm W (by omega) g
    have l2 : (done ++ [g]).length = done.length + 1 := by simp
    obtain ⟨o2, f, W3⟩ := own_all hm rest (done ++ [g]) _ W2 (by omega)
    refine ⟨o2, ?_, by rw [List.append_assoc] at W3; exact W3⟩
    rw [l2] at f
    rw [List.foldl_cons, stepF_some e, f, List.length_cons]
    congr 2; omega
theorem laid_all {m : Nat} (hm : MaskG m) {hs : Array Int} (hn : hs.size ≤ m) : ∃ owner, SetTable.layClean m hs = some owner ∧ Own m hs.toList owner := by
  obtain ⟨o2, f, W⟩ := own_all hm hs.toList [] _ (Own.init m) (by simp; exact hn)
  refine ⟨o2, ?_, W⟩
  rw [layClean_eq]
  have f' : hs.toList.foldl (stepF m) (some (Array.replicate (m + 1) none, 0)) = _ := f
  rw [f']; rfl
theorem laid_anew (t : SetTable) {hs : Array Int} {wanted M : Nat} (hw : SetTable.sizeAbove wanted - 1 = M) (hM : MaskG M) (hn : hs.size ≤ M) :
    ∃ t' order, t.relaid hs wanted = some (t', order) ∧ order.toList.Perm (List.range hs.size) ∧ TabG t' (order.toList.map fun i => hs.getD i 0) ∧ t'.mask = M := by
  obtain ⟨owner, e, W⟩ := laid_all hM hn
  have r0 : t.relaid hs wanted = some (tabOf t M owner, ((liveOf M owner).map (·.2)).toArray) := by rw [relaid_eq, hw, e]; rfl
  obtain ⟨r1, r2⟩ : Ris ((liveOf M owner).map (·.1)) ∧ ∀ x ∈ (liveOf M owner).map (·.1), x ∈ List.range (M + 1) :=
    ris_live (fun j => owner.getD j none) (List.range (M + 1)) (by unfold Ris; exact List.pairwise_lt_range)
  have live : ∀ {j k : Nat}, (j, k) ∈ liveOf M owner ↔ j ≤ M ∧ oAt owner j = some k := mem_live W.sz
  have numb : ∀ k, k < hs.size → k ∈ (liveOf M owner).map (·.2) := fun k hk => by
    obtain ⟨j, b1, b2⟩ := W.all k (by rw [Array.length_toList]; exact hk)
    exact List.mem_map.mpr ⟨(j, k), live.mpr ⟨b1, b2⟩, rfl⟩
  have len : ((liveOf M owner).map (·.2)).length = hs.size := by
    obtain ⟨ps, p1, p2⟩ := W.ps
    have once : ((liveOf M owner).map (·.1)).Nodup := List.Pairwise.imp (fun h => Nat.ne_of_lt h) r1
    have up := nat_nodup_len ((liveOf M owner).map (·.1)) ps once fun x hx => by
      obtain ⟨⟨y, k⟩, hq, rfl⟩ := List.mem_map.mp hx
      obtain ⟨b1, b2⟩ := live.mp hq
      exact p2 y b1 (by rw [b2]; intro u; cases u)
    have down := nat_nodup_len (List.range hs.size) ((liveOf M owner).map (·.2)) List.nodup_range fun k hk => numb k (List.mem_range.mp hk)
    rw [List.length_range] at down
    rw [List.length_map] at up down ⊢
    have z : hs.toList.length = hs.size := rfl
    omega
  refine ⟨_, _, r0, perm_range hs.size _ len numb, ⟨r1, rfl, ?_, hM, fun x hx => Nat.le_of_lt_succ (List.mem_range.mp (r2 x hx)), fun i g j h1 h2 => ?_⟩, rfl⟩
  · show ((liveOf M owner).map (·.1)).toArray.size = (((liveOf M owner).map (·.2)).map _).length
    simp
  · have h1 : (((liveOf M owner).map (·.2)).map fun i => hs.getD i 0)[i]? = some g := h1
    have h2 : ((liveOf M owner).map (·.1))[i]? = some j := h2
    rw [List.map_map, List.getElem?_map] at h1
    rw [List.getElem?_map] at h2
    cases q : (liveOf M owner)[i]? with
    | none => rw [q] at h2; cases h2
    | some y =>
      obtain ⟨y, k⟩ := y
      rw [q] at h1 h2
      obtain rfl : y = j := Option.some.inj h2
      have eg : hs.getD k 0 = g := Option.some.inj h1
      obtain ⟨b1, b2⟩ := live.mp (List.mem_of_getElem? q)
      obtain ⟨g0, K, a1, a2, a3⟩ := W.at_ y k b1 b2
      have e0 : hs.getD k 0 = g0 := by rw [Array.getD_eq_getD_getElem?, ← Array.getElem?_toList, a1]; rfl
      obtain rfl : g0 = g := e0.symm.trans eg
      refine ⟨K, a2, fun c hc => ?_⟩
      show way M g0 c ∈ (liveOf M owner).map (·.1)
      cases z : oAt owner (way M g0 c) with
      | none => exact absurd z (a3 c hc)
      | some k2 => exact List.mem_map.mpr ⟨(way M g0 c, k2), live.mpr ⟨way_most M g0 c, z⟩, rfl⟩
theorem above_5 : SetTable.sizeAbove (SetTable.grown 5) = 32 := by decide +kernel
theorem above_19 : SetTable.sizeAbove (SetTable.grown 19) = 128 := by decide +kernel
theorem above_77 : SetTable.sizeAbove (SetTable.grown 77) = 512 := by decide +kernel
end CP
/-! Sets whose elements are objects compared by value (tuples of texts, tuples of such tuples): set(xs), s.add(x), x in s, len(s). -/
namespace CP
open PySem PySem.Spec PyProof.Rows L2

/-- how objects serve as keys: key k stands at address a; its hash; == , hash and the two quiet questions -/
structure KF (P : Program) (w : World) (κ : Type) [DecidableEq κ] where
  At : Heap → κ → Addr → Prop
  hs : κ → Int
  eqb : ∀ {A : Around} {E : Value → Shared → Prop} {s : Shared} {x y : κ} {a b : Addr} {Q : Bool → Shared → Prop}, A.units + 8 < cLine → At s.heap x a → At s.heap y b → Q (decide (x = y)) s → wpAny (model P w) A (eqBool (.ref a) (.ref b)) Q E s
  seen : ∀ {A : Around} {E : Value → Shared → Prop} {s : Shared} {x : κ} {b : Addr} {Q : Bool → Shared → Prop} {ys : List Value}, At s.heap x b → (∀ y ∈ ys, ∃ z c, y = Value.ref c ∧ At s.heap z c) → Q false s → wpAny (model P w) A (searchCouldBeSeen (.ref b) ys) Q E s
  hby : ∀ {A : Around} {E : Value → Shared → Prop} {s : Shared} {x : κ} {b : Addr} {Q : Bool → Shared → Prop}, At s.heap x b → (∀ v, Q v s) → wpAny (model P w) A (hashByValue 8 (.ref b)) Q E s
  pyh : ∀ {A : Around} {E : Value → Shared → Prop} {s : Shared} {x : κ} {b : Addr} {Q : Int → Shared → Prop}, A.units + 8 < cLine → At s.heap x b → (∀ n, Q (hs x) { s with toks := s.toks + n }) → wpAny (model P w) A (pyHash (.ref b)) Q E s
  other : ∀ {h h' : Heap} {x : κ} {a b : Addr} {o : Obj} {es : Array (Int × Value)} {ep : Nat} {t : SetTable}, At h x b → h.get? a = some o → o.data = .set es ep t → Heap.SameBut a h h' → At h' x b
  kept : ∀ {h h' : Heap} {x : κ} {b : Addr}, At h x b → (∀ c o, h.get? c = some o → h'.get? c = some o) → At h' x b

variable {P : Program} {w : World} {κ : Type} [DecidableEq κ] {F : KF P w κ} {A : Around} {E : Value → Shared → Prop} {s : Shared}

def rowsK (F : KF P w κ) (L : List (Addr × κ)) : List (Int × Value) := L.map fun p => (F.hs p.2, Value.ref p.1)
def hsK (F : KF P w κ) (L : List (Addr × κ)) : List Int := L.map fun p => F.hs p.2

/-- at a stands a set whose elements are the objects L, no two keys alike -/
structure SK (F : KF P w κ) (h : Heap) (a : Addr) (L : List (Addr × κ)) (es : Array (Int × Value)) (ep : Nat) (t : SetTable) : Prop where
  obj : ∃ o, h.get? a = some o ∧ o.ExactSet ∧ o.data = .set es ep t
  row : es.toList = rowsK F L
  tab : TabG t (hsK F L)
  nod : (L.map (·.2)).Nodup
  ats : ∀ p ∈ L, F.At h p.2 p.1
  roo : L.length * 5 < t.mask * 3
  few : L.length < 250

section
variable {a : Addr} {L : List (Addr × κ)} {es : Array (Int × Value)} {ep : Nat} {t : SetTable}
theorem rowsK_len : (rowsK F L).length = L.length := List.length_map ..
theorem hsK_len : (hsK F L).length = L.length := List.length_map ..
theorem size_of_rows (e : es.toList = rowsK F L) : es.size = L.length := by
  rw [← Array.length_toList, e, rowsK_len]
theorem SK.size (R : SK F s.heap a L es ep t) : es.size = L.length := size_of_rows R.row
theorem entry_of_rows (e : es.toList = rowsK F L) {i : Nat} {p : Addr × κ} (hp : L[i]? = some p) : es[i]? = some (F.hs p.2, Value.ref p.1) := by
  rw [← Array.getElem?_toList, e, rowsK, List.getElem?_map, hp]; rfl
theorem fits_by (h1 : t.place.size = es.size) (h2 : t.dummies = #[]) (h3 : es.size ≤ t.mask) : t.fits es.size = true := by
  simp only [SetTable.fits, SetTable.fill, h2, Bool.and_eq_true, beq_iff_eq, decide_eq_true_eq]
  exact ⟨h1, by rw [h1]; exact h3⟩
theorem SK.fit (R : SK F s.heap a L es ep t) : t.fits es.size = true := by
  have q := R.tab.sz; rw [hsK_len] at q
  have r := R.size; have u := R.roo
  exact fits_by (by omega) R.tab.dm (by omega)
theorem SK.odd (R : SK F s.heap a L es ep t) : ¬ t.gaveWay = true := by
  simp only [SetTable.gaveWay, odd_mask R.tab.mok]; decide
theorem nth_dummy (m : Nat) : ∀ (n : Nat) (p : SetTable.Probe), p.dummy = none → (nth m p n).dummy = none
  | 0, _, e => e
  | n + 1, p, e => nth_dummy m n (adv m p) (by unfold adv; split <;> exact e)

/-- the walk's start for a hash -/
abbrev st0 (m : Nat) (h : Int) : SetTable.Probe := runAt m (SetTable.bits h % (m + 1)) (SetTable.bits h)

/-- looking for k, from the c-th place of its way on; K is the first empty place -/
theorem look_from (R : SK F s.heap a L es ep t) {x : Addr} {k : κ} (hx : F.At s.heap k x) (room : A.units + 8 < cLine) {K : Nat} (lim : K < 10 * SetTable.turns t.mask)
    (fre : way t.mask (F.hs k) K ∉ t.place.toList) (occ : ∀ c, c < K → way t.mask (F.hs k) c ∈ t.place.toList) {Q : SetFound → Shared → Prop}
    {ad : Bool} (yes : ∀ r : Option Nat, r.isSome = !ad → k ∈ L.map (·.2) → Q (.there r) s) (no : k ∉ L.map (·.2) → Q (.free (way t.mask (F.hs k) K) false) s) :
    ∀ (f c : Nat) (st : Option SetTable.Probe), st.getD (t.probeStart (F.hs k)) = nth t.mask (st0 t.mask (F.hs k)) c → c ≤ K → K - c < f →
      (∀ (i : Nat) p, L[i]? = some p → p.2 = k → ∃ d, c ≤ d ∧ d < K ∧ t.place.toList[i]? = some (way t.mask (F.hs k) d)) →
      wpAny (model P w) A (setSearchFrom a (.ref x) (F.hs k) ad f st) Q E s
  | 0, _, _, _, _, z, _ => absurd z (Nat.not_lt_zero _)
  | f + 1, c, st, est, hc, hf, rest => by
    obtain ⟨o, ob1, _, ob2⟩ := R.obj
    rw [setSearchFrom_succ]
    refine wpAny_bind (wpAny_setState_of ob1 ob2 R.fit ?_); dsimp only
    refine wp_if_neg R.odd ?_
    try refine wpAny_bind (wpAny_pure ?_)
    have shift : ∀ q, nth t.mask (nth t.mask (st0 t.mask (F.hs k)) c) q = nth t.mask (st0 t.mask (F.hs k)) (c + q) := fun q => (nth_add t.mask c _ q).symm
    have place : ∀ q, (nth t.mask (nth t.mask (st0 t.mask (F.hs k)) c) q).j = way t.mask (F.hs k) (c + q) := fun q => congrArg SetTable.Probe.j (shift q)
    have look := go_spec t R.tab.ris R.tab.dm (fun i => (es[i]?.map (·.1)).getD 0) (F.hs k) (10 * SetTable.turns t.mask) (K - c) _ (nth_dummy t.mask c (st0 t.mask (F.hs k)) rfl) (by omega)
      (fun q hq => by rw [place]; exact occ (c + q) (by omega)) (by rw [place, Nat.add_sub_cancel' hc]; exact fre)
    have hashOf : ∀ (i : Nat) p, L[i]? = some p → (es[i]?.map (·.1)).getD 0 = F.hs p.2 := fun i p hp => by rw [entry_of_rows R.row hp]; rfl
    rcases look with ⟨q, i, hq, hi, _, none_before, ans⟩ | ⟨none_before, ans⟩
    · have ans' : t.probe (fun i => (es[i]?.map (·.1)).getD 0) (F.hs k) (st.getD (t.probeStart (F.hs k))) = some (.candidate (way t.mask (F.hs k) (c + q)) i (nth t.mask (st0 t.mask (F.hs k)) (c + (q + 1)))) := by
        rw [est, ← place, ← shift]; exact ans
      rw [ans']; dsimp only
      rw [place] at hi
      have inL : i < L.length := by
        have u := (List.getElem?_eq_some_iff.mp hi).1
        have v := R.tab.sz; rw [hsK_len] at v; rw [Array.length_toList] at u; omega
      obtain ⟨p, hp⟩ : ∃ p, L[i]? = some p := ⟨_, List.getElem?_eq_getElem inL⟩
      have pL : p ∈ L := List.mem_of_getElem? hp
      have go_on : wpAny (model P w) A (searchRest a (.ref x) (F.hs k) ad f es t (way t.mask (F.hs k) (c + q)) i (nth t.mask (st0 t.mask (F.hs k)) (c + (q + 1)))) Q E s := by
        unfold searchRest
        rw [entry_of_rows R.row hp]; dsimp only
        refine wpAny_bind (wpAny_holding (F.eqb room (R.ats p pL) hx ?_))
        refine wpAny_bind (wpAny_setState_of ob1 ob2 R.fit ?_); dsimp only
        by_cases same : p.2 = k
        · cases ad with
          | true => refine wp_if_pos (by simp [same]) (wpAny_pure (yes none rfl (List.mem_map.mpr ⟨p, pL, same⟩)))
          | false =>
            refine wp_if_neg (by simp) ?_
            try refine wpAny_bind (wpAny_pure ?_)
            rw [sameMem]; dsimp only
            have live := slot_live R.tab.ris hi
            simp only [if_true, live, entry_of_rows R.row hp]
            refine wpAny_bind (wpAny_isSame_ref_self (wpAny_bind (wpAny_pure ?_)))
            simp only [if_true]
            refine wp_if_pos (by simp [same]) (wpAny_pure (yes (some i) rfl (List.mem_map.mpr ⟨p, pL, same⟩)))
        · refine wp_if_neg (by simp [same]) ?_
          try refine wpAny_bind (wpAny_pure ?_)
          rw [sameMem]; dsimp only
          have live := slot_live R.tab.ris hi
          simp only [if_true, live, entry_of_rows R.row hp]
          refine wpAny_bind (wpAny_isSame_ref_self (wpAny_bind (wpAny_pure ?_)))
          simp only [if_true]
          refine wp_if_neg (by simp [same]) (look_from R hx room lim fre occ yes no f (c + (q + 1)) _ rfl (by omega) (by omega) fun j r hj er => ?_)
          obtain ⟨d, d1, d2, d3⟩ := rest j r hj er
          refine ⟨d, ?_, d2, d3⟩
          rcases Nat.lt_trichotomy d (c + q) with lt | eq | gt
          · exact absurd ((hashOf j r hj).trans (congrArg F.hs er)) (none_before (d - c) j (by omega) (by rw [place, Nat.add_sub_cancel' d1]; exact d3))
          · rw [eq] at d3
            have l2 := slot_live R.tab.ris d3
            rw [live] at l2; injection l2 with l2
            rw [← l2, hp] at hj
            exact absurd ((congrArg Prod.snd (Option.some.inj hj)).trans er) same
          · omega
      by_cases led : t.led = true
      · refine wp_if_neg (by simp [led]) ?_
        try refine wpAny_bind (wpAny_pure ?_)
        exact go_on
      · refine wp_if_pos (by simp [led]) (wpAny_bind (F.seen hx (fun y hy => ?_) ?_))
        · obtain ⟨r, hr, rfl⟩ := List.mem_map.mp hy
          have hr1 : r ∈ es.toList := by
            have : r ∈ es ∧ r.1 = F.hs k := by simpa using hr
            simpa using this.1
          rw [R.row] at hr1
          obtain ⟨p2, hp2, rfl⟩ := List.mem_map.mp hr1
          exact ⟨p2.2, p2.1, rfl, R.ats p2 hp2⟩
        · refine wp_if_neg (by decide) ?_
          try refine wpAny_bind (wpAny_pure ?_)
          exact go_on
    · have ans' : t.probe (fun i => (es[i]?.map (·.1)).getD 0) (F.hs k) (st.getD (t.probeStart (F.hs k))) = some (.empty (way t.mask (F.hs k) K) none) := by
        have e2 := place (K - c); rw [Nat.add_sub_cancel' hc] at e2
        rw [est, ← e2]; exact ans
      rw [ans']; dsimp only
      refine wpAny_pure (no fun hm => ?_)
      obtain ⟨r, hr, er⟩ := List.mem_map.mp hm
      obtain ⟨j, hj⟩ := List.getElem?_of_mem hr
      obtain ⟨d, d1, d2, d3⟩ := rest j r hj er
      exact none_before (d - c) j (by omega) (by rw [place, Nat.add_sub_cancel' d1]; exact d3) ((hashOf j r hj).trans (congrArg F.hs er))

theorem look_for (R : SK F s.heap a L es ep t) {x : Addr} {k : κ} (hx : F.At s.heap k x) (room : A.units + 8 < cLine) {Q : SetFound → Shared → Prop} {ad : Bool} (yes : ∀ r : Option Nat, r.isSome = !ad → k ∈ L.map (·.2) → Q (.there r) s)
    (no : ∀ K, k ∉ L.map (·.2) → way t.mask (F.hs k) K ∉ t.place.toList → (∀ c, c < K → way t.mask (F.hs k) c ∈ t.place.toList) → Q (.free (way t.mask (F.hs k) K) false) s) :
    wpAny (model P w) A (setSearch a (.ref x) (F.hs k) ad) Q E s := by
  have u := R.roo
  obtain ⟨K, lim, fre, occ⟩ := R.tab.first (by rw [hsK_len]; omega) (F.hs k)
  have small : 10 * SetTable.turns t.mask ≤ 5260 := by
    unfold SetTable.turns; rcases R.tab.mok with e | e | e | e <;> omega
  unfold setSearch
  refine look_from R hx room lim fre occ yes (fun z => no K z fre occ) 100000 0 none rfl (Nat.zero_le _) (by omega) fun i p hp ek => ?_
  have hh : (hsK F L)[i]? = some (F.hs k) := by rw [hsK, List.getElem?_map, hp, ← ek]; rfl
  have hl : i < t.place.toList.length := by
    have v := R.tab.sz; rw [hsK_len] at v
    have u := (List.getElem?_eq_some_iff.mp hp).1; rw [Array.length_toList]; omega
  obtain ⟨c, c1, c2⟩ := R.tab.before fre hh (List.getElem?_eq_getElem hl)
  exact ⟨c, Nat.zero_le _, c1, by rw [List.getElem?_eq_getElem hl, c2]⟩
end
section
variable {a : Addr} {L : List (Addr × κ)} {es : Array (Int × Value)} {ep : Nat} {t : SetTable}
theorem pick_rows (L : List (Addr × κ)) (e : es.toList = rowsK F L) : ∀ l : List Nat, (∀ i ∈ l, i < L.length) →
    l.filterMap (fun i => es[i]?) = rowsK F (l.filterMap fun i => L[i]?) ∧ hsK F (l.filterMap fun i => L[i]?) = l.map fun i => (es.map (·.1)).getD i 0
  | [], _ => ⟨rfl, rfl⟩
  | i :: l, hl => by
    have hi := hl i List.mem_cons_self
    obtain ⟨p, hp⟩ : ∃ p, L[i]? = some p := ⟨_, List.getElem?_eq_getElem hi⟩
    obtain ⟨e1, e2⟩ := pick_rows L e l fun j hj => hl j (List.mem_cons_of_mem _ hj)
    have q := entry_of_rows e hp
    have q2 : (es.map (·.1)).getD i 0 = F.hs p.2 := by
      rw [Array.getD_eq_getD_getElem?, Array.getElem?_map, q]; rfl
    refine ⟨?_, ?_⟩
    · rw [List.filterMap_cons_some q, List.filterMap_cons_some hp, e1]; rfl
    · rw [List.filterMap_cons_some hp, List.map_cons, q2, ← e2]; rfl
theorem pick_all {α : Type} (L : List α) : ∀ n, n ≤ L.length → (List.range n).filterMap (fun i => L[i]?) = L.take n
  | 0, _ => rfl
  | n + 1, hn => by
    rw [List.range_succ, List.filterMap_append, pick_all L n (Nat.le_of_lt hn), List.take_succ, List.filterMap_cons, List.getElem?_eq_getElem hn]; rfl
theorem pick_perm {α : Type} (L : List α) {l : List Nat} (h : l.Perm (List.range L.length)) : (l.filterMap fun i => L[i]?).Perm L := by
  have q := h.filterMap fun i => L[i]?
  rw [pick_all L _ (Nat.le_refl _), List.take_length] at q
  exact q

/-- is k in it -/
theorem find_in (R : SK F s.heap a L es ep t) {x : Addr} {k : κ} (hx : F.At s.heap k x) (room : A.units + 8 < cLine) {Q : Option Nat → Shared → Prop} (hQ : ∀ r : Option Nat, r.isSome = decide (k ∈ L.map (·.2)) → Q r s) :
    wpAny (model P w) A (setFind a (.ref x) (F.hs k)) Q E s := by
  obtain ⟨o, ob1, obx, ob2⟩ := R.obj
  unfold setFind
  rw [show (100000 : Nat) = 99999 + 1 from rfl]
  unfold setFindIn
  refine wpAny_bind (wpAny_setState_of ob1 ob2 R.fit ?_); dsimp only
  refine wp_if_neg (by simp [byScan, Value.scannable]) ?_
  try refine wpAny_bind (wpAny_pure ?_)
  refine wpAny_bind (look_for R hx room (fun r hr hm => ?_) fun K hm fre occ => ?_)
  · exact wpAny_pure (hQ r (by rw [hr, decide_eq_true hm]; rfl))
  · exact wpAny_pure (hQ none (by rw [decide_eq_false hm]; rfl))

/-- the table laid anew, with more places -/
theorem lay_anew {o : Obj} (ob1 : s.heap.get? a = some o) (obx : o.ExactSet) (ob2 : o.data = .set es ep t) (row : es.toList = rowsK F L) (pz : t.place.size = es.size) (dm : t.dummies = #[]) (le : es.size ≤ t.mask)
    (nod : (L.map (·.2)).Nodup) (ats : ∀ p ∈ L, F.At s.heap p.2 p.1) (few : L.length < 250) {n M : Nat} (hM : SetTable.sizeAbove n - 1 = M) (ok : MaskG M) (most : SetTable.sizeAbove n ≤ 512) (roo : L.length * 5 < M * 3) {Q : Unit → Shared → Prop}
    (hQ : ∀ h' L' es' ep' t', Heap.SameBut a s.heap h' → SK F h' a L' es' ep' t' → L'.Perm L → Q () { s with heap := h' }) : wpAny (model P w) A (setRelay a n) Q E s := by
  have sz := size_of_rows row
  obtain ⟨t', ord, er, pm, T, em⟩ := laid_anew t (hs := es.map (·.1)) (wanted := n) hM ok (by rw [Array.size_map, sz]; omega)
  rw [Array.size_map, sz] at pm
  obtain ⟨r1, r2⟩ := pick_rows L row ord.toList fun i hi => List.mem_range.mp (pm.mem_iff.mp hi)
  have pL := pick_perm L pm
  rw [← r2] at T
  generalize (ord.toList.filterMap fun i => L[i]?) = L2 at r1 r2 pL T
  have r3 : (ord.filterMap (es[·]?)).toList = rowsK F L2 := by rw [← r1]; simp
  have z2 : (ord.filterMap (es[·]?)).size = es.size := by rw [size_of_rows r3, pL.length_eq, sz]
  rw [setRelay_eq]
  refine wpAny_bind (wpAny_setState_of ob1 ob2 (fits_by pz dm le) ?_); dsimp only
  refine wp_if_neg (by rw [sizeLine_eq]; omega) ?_
  try refine wpAny_bind (wpAny_pure ?_)
  rw [er]; dsimp only
  refine wpAny_bind (wp_if_neg (by rw [z2]; simp) ?_)
  try refine wpAny_bind (wpAny_pure ?_)
  refine wpAny_pure ?_; dsimp only
  refine wpAny_storeSet_of ob1 ob2 ?_ (by rw [z2, sz, sizeLine_eq]; omega)
  have sb : Heap.SameBut a s.heap (s.heap.update a (Obj.putSet (ord.filterMap (es[·]?)) t')) := Heap.SameBut.update ..
  exact hQ _ L2 _ _ _ sb ⟨⟨_, store_at ob1 ob2, ⟨obx.1, obx.2.1, obx.2.2⟩, rfl⟩, r3, T, (pL.map (·.2)).nodup_iff.mpr nod, fun p hp => F.other (ats p (pL.mem_iff.mp hp)) ob1 ob2 sb, by rw [pL.length_eq, em]; exact roo, by rw [pL.length_eq]; exact few⟩ pL

def marked (v : Bool) (t : SetTable) : SetTable := if v = true then t else { t with plain := false }
theorem plainly (v : Bool) {hs : List Int} (T : TabG t hs) : TabG (marked v t) hs := by
  cases v
  · exact ⟨T.ris, T.dm, T.sz, T.mok, T.bd, T.reach⟩
  · exact T
theorem marked_mask (v : Bool) (t : SetTable) : (marked v t).mask = t.mask := by cases v <;> rfl
theorem marked_fill (v : Bool) (t : SetTable) : (marked v t).fill = t.fill := by cases v <;> rfl
theorem by_value {β : Type} {x : Addr} {k : κ} (hx : F.At s.heap k x) {f : Bool → Sem β} {Q : β → Shared → Prop} (h : ∀ v, wpAny (model P w) A (f v) Q E s) : wpAny (model P w) A (if t.plain = true then (hashByValue 8 (.ref x) >>= f) else (pure true >>= f)) Q E s := by
  by_cases c : t.plain = true
  · exact wp_if_pos c (wpAny_bind (F.hby hx h))
  · exact wp_if_neg c (wpAny_bind (wpAny_pure (h true)))
/-- one element more -/
theorem put_in (R : SK F s.heap a L es ep t) {x : Addr} {k : κ} (hx : F.At s.heap k x) (room : A.units + 8 < cLine) (fewer : L.length + 1 < 250) {Q : Bool → Shared → Prop}
    (hQ : ∀ b h' L' es' ep' t', Heap.SameBut a s.heap h' → SK F h' a L' es' ep' t' → (k ∈ L.map (·.2) → L' = L) → (k ∉ L.map (·.2) → L'.Perm ((x, k) :: L)) → Q b { s with heap := h' }) :
    wpAny (model P w) A (setAddHashed a (.ref x) (F.hs k)) Q E s := by
  obtain ⟨o, ob1, obx, ob2⟩ := R.obj
  have sz := R.size
  have roo := R.roo
  unfold setAddHashed
  refine wpAny_holding ?_
  rw [show (100000 : Nat) = 99999 + 1 from rfl, setAddHashedIn_succ]
  refine wpAny_bind (wpAny_setState_of ob1 ob2 R.fit ?_); dsimp only
  refine wp_if_neg (by simp [byScan, Value.scannable]) ?_
  try refine wpAny_bind (wpAny_pure ?_)
  refine wpAny_bind (look_for R hx room (fun r hr hm => ?_) fun K hm fre occ => ?_)
  · exact wpAny_pure (hQ false s.heap L es ep t (Heap.SameBut.refl a s.heap) R (fun _ => rfl) fun z => absurd hm z)
  · dsimp only
    refine wpAny_bind (wpAny_setState_of ob1 ob2 R.fit ?_); dsimp only
    obtain ⟨n0, q0, q1, q2, q3, q4, q9⟩ := R.tab.put fre occ
    generalize t.put (way t.mask (F.hs k) K) = pt at q1 q3 q4 q9 ⊢
    obtain ⟨t1, n⟩ := pt
    dsimp only at q1 q3 q4 q9 ⊢
    subst q1
    refine by_value hx fun v => ?_
    replace q3 := plainly v q3
    replace q4 : (marked v t1).mask = t.mask := (marked_mask v t1).trans q4
    replace q9 : (marked v t1).fill = _ := (marked_fill v t1).trans q9
    show wpAny _ _ (storeSet a _ (marked v t1) >>= fun _ => if (!false && (marked v t1).tooFull) = true then (setRelay a _ >>= fun _ => pure true) else pure true) _ _ _
    generalize marked v t1 = t1 at q3 q4 q9 ⊢
    clear q0
    have pm := put_perm L n (x, k)
    have row1 : (SetTable.insertAt es n (F.hs k, Value.ref x)).toList = rowsK F (L.take n ++ (x, k) :: L.drop n) := by
      rw [SetTable.toList_insertAt, R.row]
      simp only [rowsK, List.map_append, List.map_cons, List.map_take, List.map_drop]
    have hh1 : hsK F (L.take n ++ (x, k) :: L.drop n) = (hsK F L).take n ++ F.hs k :: (hsK F L).drop n := by
      simp only [hsK, List.map_append, List.map_cons, List.map_take, List.map_drop]
    rw [← hh1] at q3
    have nod1 : ((L.take n ++ (x, k) :: L.drop n).map (·.2)).Nodup := (pm.map (·.2)).nodup_iff.mpr (by rw [List.map_cons]; exact List.nodup_cons.mpr ⟨hm, R.nod⟩)
    generalize SetTable.insertAt es n (F.hs k, Value.ref x) = es1 at row1 ⊢
    generalize L.take n ++ (x, k) :: L.drop n = L1 at pm q3 nod1 row1
    have len1 : L1.length = L.length + 1 := pm.length_eq
    have sz1 : es1.size = L.length + 1 := (size_of_rows row1).trans len1
    refine wpAny_bind (wpAny_storeSet_of ob1 ob2 ?_ (by rw [sz1, sizeLine_eq]; omega))
    have sb : Heap.SameBut a s.heap (s.heap.update a (Obj.putSet es1 t1)) := Heap.SameBut.update ..
    have ob3 := store_at (es' := es1) (t' := t1) ob1 ob2
    generalize s.heap.update a (Obj.putSet es1 t1) = h1 at sb ob3 ⊢
    have ats1 : ∀ p ∈ L1, F.At h1 p.2 p.1 := fun p hp => by
      rcases List.mem_cons.mp (pm.mem_iff.mp hp) with rfl | hp
      · exact F.other hx ob1 ob2 sb
      · exact F.other (R.ats p hp) ob1 ob2 sb
    have full : t1.tooFull = decide ((L.length + 1) * 5 ≥ t1.mask * 3) := by
      unfold SetTable.tooFull; rw [q9, hsK_len]
    by_cases hf : (L.length + 1) * 5 ≥ t1.mask * 3
    · rw [full, decide_eq_true hf]
      first
        | (refine wpAny_bind ?_; refine wp_if_pos (by simp) ?_)
        | (refine wp_if_pos (by simp) ?_; refine wpAny_bind ?_)
      rw [sz]
      have pz1 : t1.place.size = es1.size := by have v := q3.sz; rw [hsK_len, len1] at v; rw [v, sz1]
      have two : (t.mask = 7 ∧ L.length = 4) ∨ (t.mask = 31 ∧ L.length = 18) ∨ (t.mask = 127 ∧ L.length = 76) := by
        rw [q4] at hf
        rcases R.tab.mok with e | e | e | e <;> rw [e] at hf roo
        · exact .inl ⟨e, by omega⟩
        · exact .inr (.inl ⟨e, by omega⟩)
        · exact .inr (.inr ⟨e, by omega⟩)
        · omega
      have more : ∀ M, SetTable.sizeAbove (SetTable.grown (L.length + 1)) - 1 = M → MaskG M → SetTable.sizeAbove (SetTable.grown (L.length + 1)) ≤ 512 → (L.length + 1) * 5 < M * 3 →
          wpAny (model P w) A (setRelay a (SetTable.grown (L.length + 1))) (fun _ s' => wpAny (model P w) A (pure true) Q E s') E { s with heap := h1 } := fun M m1 m2 m3 m4 =>
        lay_anew (s := { s with heap := h1 }) ob3 ⟨obx.1, obx.2.1, obx.2.2⟩ rfl row1 pz1 q3.dm (by rw [sz1, q4]; rcases two with ⟨e, e2⟩ | ⟨e, e2⟩ | ⟨e, e2⟩ <;> omega) nod1 ats1 (by rw [len1]; exact fewer) m1 m2 m3 (by rw [len1]; exact m4)
          fun h2 L2 es2 ep2 t2 sb2 R2 pm2 => wpAny_pure (hQ true h2 L2 es2 ep2 t2 (sb.trans sb2) R2 (fun z => absurd z hm) fun _ => pm2.trans pm)
      rcases two with ⟨_, e2⟩ | ⟨_, e2⟩ | ⟨_, e2⟩
      · exact more 31 (by rw [e2, above_5]) (.inr (.inl rfl)) (by rw [e2, above_5]; decide) (by omega)
      · exact more 127 (by rw [e2, above_19]) (.inr (.inr (.inl rfl))) (by rw [e2, above_19]; decide) (by omega)
      · exact more 511 (by rw [e2, above_77]) (.inr (.inr (.inr rfl))) (by rw [e2, above_77]; decide) (by omega)
    · rw [full, decide_eq_false hf]
      first
        | refine wp_if_neg (by simp) ?_
        | (refine wpAny_bind ?_; refine wp_if_neg (by simp) ?_; refine wpAny_pure ?_)
      exact wpAny_pure (hQ true h1 L1 es1 (ep + 1) t1 sb ⟨⟨_, ob3, ⟨obx.1, obx.2.1, obx.2.2⟩, rfl⟩, row1, q3, nod1, ats1, by rw [len1]; omega, by rw [len1]; exact fewer⟩ (fun z => absurd z hm) fun _ => pm)
end
section
/-- what the set has from the first i of ks -/
structure Has (ks : List (Addr × κ)) (i : Nat) (L : List (Addr × κ)) : Prop where
  sub : ∀ p ∈ L, p ∈ ks.take i
  all : ∀ p ∈ ks.take i, p.2 ∈ L.map (·.2)
  len : L.length ≤ i
  full : (ks.map (·.2)).Nodup → L.length = i
  once : L.length = i → ((ks.take i).map (·.2)).Nodup
theorem take_one {α : Type} {l : List α} {i : Nat} {x : α} (h : l[i]? = some x) : l.take (i + 1) = l.take i ++ [x] := by rw [List.take_succ, h]; rfl
theorem Has.none (ks : List (Addr × κ)) : Has ks 0 [] := ⟨(fun _ z => nomatch z), (fun _ z => by simp at z), Nat.le_refl _, fun _ => rfl, fun _ => List.nodup_nil⟩
theorem Has.next {ks L L' : List (Addr × κ)} {i : Nat} {x : Addr × κ} (g : Has ks i L) (hx : ks[i]? = some x) (c1 : x.2 ∈ L.map (·.2) → L' = L) (c2 : x.2 ∉ L.map (·.2) → L'.Perm (x :: L)) : Has ks (i + 1) L' := by
  by_cases c : x.2 ∈ L.map (·.2)
  · rw [c1 c]
    refine ⟨fun p hp => ?_, fun p hp => ?_, Nat.le_succ_of_le g.len, fun nd => ?_, fun z => absurd z (Nat.ne_of_lt (Nat.lt_succ_of_le g.len))⟩
    · rw [take_one hx]; exact List.mem_append_left _ (g.sub p hp)
    · rw [take_one hx] at hp
      rcases List.mem_append.mp hp with z | z
      · exact g.all p z
      · rw [List.mem_singleton.mp z]; exact c
    · exfalso
      obtain ⟨p, hp, e⟩ := List.mem_map.mp c
      obtain ⟨j, hj⟩ := List.getElem?_of_mem (g.sub p hp)
      have hji : j < i := Nat.lt_of_lt_of_le (List.getElem?_eq_some_iff.mp hj).1 (List.length_take_le _ _)
      rw [List.getElem?_take_of_lt hji] at hj
      have a1 : (ks.map (·.2))[j]? = some x.2 := by rw [List.getElem?_map, hj, ← e]; rfl
      have a2 : (ks.map (·.2))[i]? = some x.2 := by rw [List.getElem?_map, hx]; rfl
      obtain ⟨b1, e1⟩ := List.getElem?_eq_some_iff.mp a1
      obtain ⟨b2, e2⟩ := List.getElem?_eq_some_iff.mp a2
      exact (List.pairwise_iff_getElem.mp nd) j i b1 b2 hji (e1.trans e2.symm)
  · have pm := c2 c
    refine ⟨fun p hp => ?_, fun p hp => ?_, by rw [pm.length_eq]; exact Nat.succ_le_succ g.len, fun nd => by rw [pm.length_eq, List.length_cons, g.full nd], fun z => ?_⟩
    · rw [take_one hx]
      rcases List.mem_cons.mp (pm.mem_iff.mp hp) with rfl | z
      · exact List.mem_append_right _ (List.mem_singleton.mpr rfl)
      · exact List.mem_append_left _ (g.sub p z)
    · rw [(pm.map (·.2)).mem_iff, List.map_cons]
      rw [take_one hx] at hp
      rcases List.mem_append.mp hp with z | z
      · exact List.mem_cons_of_mem _ (g.all p z)
      · rw [List.mem_singleton.mp z]; exact List.mem_cons_self
    · rw [pm.length_eq, List.length_cons] at z
      have nd := g.once (by omega)
      rw [take_one hx, List.map_append]
      refine List.nodup_append.mpr ⟨nd, by simp, fun y hy y' hy' e => c ?_⟩
      simp at hy'
      obtain ⟨p, hp, ep⟩ := List.mem_map.mp hy
      rw [← hy', ← e, ← ep]; exact g.all p hp
theorem SK.kept {h h' : Heap} {a : Addr} {L : List (Addr × κ)} {es : Array (Int × Value)} {ep : Nat} {t : SetTable} (R : SK F h a L es ep t) (ha : ∀ o, h.get? a = some o → h'.get? a = some o) (ht : ∀ p ∈ L, F.At h' p.2 p.1) : SK F h' a L es ep t := by
  obtain ⟨o, ob, r⟩ := R.obj
  exact ⟨⟨o, ha o ob, r⟩, R.row, R.tab, R.nod, ht, R.roo, R.few⟩
theorem SK.new {h : Heap} {a : Addr} {b : Bool} (ho : h.get? a = some { cls := .type "set", dict := none, data := .set #[] 0 (.fresh 0 0 b) }) : SK F h a [] #[] 0 (.fresh 0 0 b) :=
  ⟨⟨_, ho, ⟨rfl, rfl, rfl⟩, rfl⟩, rfl, ⟨List.Pairwise.nil, rfl, rfl, .inl rfl, fun _ z => (by cases z), fun _ _ _ z => (by simp [hsK] at z)⟩, List.nodup_nil, fun _ z => (by cases z), (by show 0 * 5 < 7 * 3; decide), (by show 0 < 250; decide)⟩

end
end CP
namespace CP
open PySem PySem.Spec PyProof.Rows L2
variable {P : Program} {w : World} {A : Around} {E : Value → Shared → Prop} {s : Shared}
section
variable {a : Addr}
/-- what a set filled item by item holds: J i h, «behind i items», S its place, h0 the heap ahead -/
structure Fills (P : Program) (w : World) (u : Nat) (E : Value → Shared → Prop) (S : Addr) (items : Array Value) (h0 : Heap) (J : Nat → Heap → Prop) : Prop where
  zero : ∀ (h : Heap) (b : Bool), h.get? S = some { cls := .type "set", dict := none, data := .set #[] 0 (.fresh 0 0 b) } → (∀ c o, h0.get? c = some o → h.get? c = some o) → J 0 h
  keep : ∀ (i : Nat) (h h' : Heap), J i h → (∀ o, h.get? S = some o → h'.get? S = some o) → (∀ c o, h0.get? c = some o → h'.get? c = some o) → J i h'
  step : ∀ (A' : Around) (i : Nat) (v : Value) (s' : Shared), A'.units ≤ u → items[i]? = some v → J i s'.heap → (∀ c o, h0.get? c = some o → s'.heap.get? c = some o) → ∀ Q : Bool → Shared → Prop,
    (∀ (b : Bool) (h' : Heap) (n : Nat), Heap.SameBut S s'.heap h' → J (i + 1) h' → Q b { s' with heap := h', toks := s'.toks + n }) → wpAny (model P w) A' (setAdd S v) Q E s'

theorem fills_loop {I : Addr} {fp wr : List Addr} {G : Array GenState → Array GenState → Prop} {items : Array Value} {St : Nat → Shared → Prop} {R : Result → Shared → Prop} {u : Nat} {h0 : Heap} {J : Nat → Heap → Prop} {S : Addr}
    (W : WalksS P w A.in1 I fp wr G items.size (fun i v => items[i]? = some v) St) (off : S ∉ fp) (freeS : h0.get? S = none) (freeW : ∀ b ∈ wr, h0.get? b = none) (hu : A.in1.units ≤ u)
    (T : ∀ E, Fills P w u E S items h0 J) :
    ∀ (k i : Nat) (s : Shared), items.size - i = k → i ≤ items.size → St i s → (∀ b o, h0.get? b = some o → s.heap.get? b = some o) → J i s.heap →
      (∀ s', Moved (S :: wr) G s s' → J items.size s'.heap → (∀ b o, h0.get? b = some o → s'.heap.get? b = some o) → R (.ok (.ret .none)) s') →
      codeAny (model P w) A (.builtin "set.update.loop" ⟨[.ref S, .ref I], []⟩) R s := by
  have offW : S ∉ wr := fun z => off (W.sub _ z)
  have wider : ∀ b ∈ wr, b ∈ S :: wr := fun b => List.mem_cons_of_mem _
  have still : ∀ {s s' : Shared}, Moved wr G s s' → (∀ b o, h0.get? b = some o → s.heap.get? b = some o) → ∀ b o, h0.get? b = some o → s'.heap.get? b = some o := fun m q b o e =>
    m.heap b o (fun z => by rw [freeW b z] at e; cases e) (q b o e)
  intro k
  induction k with
  | zero =>
    intro i s hk' hi hst hkp hJ hR
    obtain rfl : i = items.size := by omega
    refine codeAny_builtin PyProof.Rows.F.entry_set_update_loop ?_
    rw [Around.under_plainId PyProof.Rows.F.plain_set_update_loop _]
    show wpAny _ A.in1 (pyNext (.ref I) >>= _) _ _ s
    refine wpAny_bind (W.done s _ _ hst fun s' m => ?_)
    show wpAny _ A.in1 (ret Value.none) _ _ s'
    exact wpAny_pure (hR s' (m.mono wider) ((T (fun _ _ => False)).keep _ _ _ hJ (fun o e => m.heap S o offW e) (still m hkp)) (still m hkp))
  | succ k ih =>
    intro i s hk' hi hst hkp hJ hR
    have lt : i < items.size := by omega
    refine codeAny_builtin PyProof.Rows.F.entry_set_update_loop ?_
    rw [Around.under_plainId PyProof.Rows.F.plain_set_update_loop _]
    show wpAny _ A.in1 (pyNext (.ref I) >>= _) _ _ s
    refine wpAny_bind (W.item i s _ _ lt hst fun v s' pv hst' m => ?_)
    have q := still m hkp
    show wpAny _ A.in1 (holding [v] (setAdd S v) >>= _) _ _ s'
    refine wpAny_bind (wpAny_holding ((T _).step A.in1 i v s' hu pv ((T (fun _ _ => False)).keep _ _ _ hJ (fun o e => m.heap S o offW e) q) q _ fun b h' tn sb J' => ?_))
    have q2 : ∀ b o, h0.get? b = some o → h'.get? b = some o := fun b o e => (sb.2 b (fun z => by rw [z, freeS] at e; cases e)).trans (q b o e)
    refine wpAny_pure ⟨plainId_quiet PyProof.Rows.F.plain_set_update_loop _, ih (i + 1) _ (by omega) lt (W.frame _ s' _ _ hst' (Nat.le_add_right _ _) fun b hb o e => ?_) q2 J' fun s'' m'' J'' q'' => ?_⟩
    · rw [sb.2 b (fun z : b = S => off (z ▸ hb))]; exact e
    · refine hR s'' (Moved.trans W.gtrans ((m.mono wider).then_heap (Nat.le_add_right _ _) fun b o hb e => ?_) m'') J'' q''
      rw [sb.2 b (fun z : b = S => hb (by rw [z]; exact List.mem_cons_self))]; exact e

abbrev newSet (w : World) : Obj := { cls := .type "set", dict := none, data := .set #[] 0 (.fresh 0 0 (!w.params.followText "set-order")) }
theorem free_above {h : Heap} {b : Addr} (hb : h.objs.size ≤ b) : h.get? b = none := by
  cases q : h.get? b with
  | none => rfl
  | some o => exact absurd (Nat.lt_of_lt_of_le (Heap.lt_size q) hb) (Nat.lt_irrefl _)
/-- set(xs), xs a list or a tuple -/
theorem set_of_seq {l : Addr} {items : Array Value} {Q : Value → Shared → Prop} {J : Nat → Heap → Prop} {ty it : String} {od : Option Addr} {nl : Nat} {os : Array (Option Value)} {St : Addr → Nat → Heap → Prop}
    (hol : s.heap.get? l = some { cls := .type ty, dict := od, data := .seq items nl, slots := os }) (n1 : isSubtype (.type ty) (.type "set") = pure false) (n2 : isSubtype (.type ty) (.type "frozenset") = pure false) (n3 : (Value.type ty == Value.type "dict") = false)
    (beg : ∀ {A : Around} {E : Value → Shared → Prop} {s1 : Shared} {Q : Value → Shared → Prop}, s1.heap.get? l = some { cls := .type ty, dict := od, data := .seq items nl, slots := os } → Q (.ref s1.heap.objs.size) { s1 with heap := s1.heap.push { cls := .type it, data := .fields #[.ref l, .int 0 0] } } → wpAny (model P w) A (pyIter (.ref l)) Q E s1)
    (W : ∀ I, l ≠ I → Walks P w A.in1.in1.in1 I [I, l] [I] items.size (fun i v => items[i]? = some v) (St I))
    (St0 : ∀ h : Heap, h.get? l = some { cls := .type ty, dict := od, data := .seq items nl, slots := os } → St h.objs.size 0 (h.push { cls := .type it, data := .fields #[.ref l, .int 0 0] })) (T : ∀ E, Fills P w (A.units + 3) E s.heap.objs.size items s.heap J)
    (h : ∀ (h' : Heap) (tk : Nat), J items.size h' → (∀ b o, s.heap.get? b = some o → h'.get? b = some o) → Q (.ref s.heap.objs.size) { s with heap := h', toks := tk }) :
    wpAny (model P w) A (call (.type "set") [.ref l]) Q E s := by
  obtain ⟨c, tl, m1⟩ := PySem.F.called_set.mro
  have m2 := PySem.F.called_set.made
  have m3 := PySem.F.called_set.sub
  refine wpAny_call (codeAny_of_tree ?_); show wpAny _ _ (callAny (.type "set") _) _ _ _
  refine wpAny_pure ⟨Code.quiet_builtin _ (by decide +kernel), codeAny_builtin PySem.F.entry_type_call ?_⟩
  rw [Around.under_plain (weight_type_call_type "set" [.ref l] []) rfl]
  have m4 := PySem.F.called_set.notType
  have m5 := PySem.F.called_set.canCreate
  have m6 := PySem.F.typeCall_set_1 (.ref l)
  repeat (any_goals (first | assumption | wp_step))
  refine codeAny_mono (code_set_led1 (.ref l) (E := E) (Q₁ := fun v s₁ => v = .ref s.heap.objs.size ∧ s₁ = { s with heap := s.heap.push (newSet w) }) ⟨rfl, rfl⟩) fun r s₁ hr => ?_
  cases r with
  | error e => exact hr
  | ok fl =>
    cases fl with
    | ret obj =>
      obtain ⟨rfl, rfl⟩ := hr
      have atS : (s.heap.push (newSet w)).get? s.heap.objs.size = some (newSet w) := Heap.get?_push_size _ rfl
      have tyS : Shared.TypeIs { s with heap := s.heap.push (newSet w) } (.ref s.heap.objs.size) "set" := ⟨_, atS, rfl⟩
      have m7 := PySem.F.called_set.init.lookup
      have m8 := PySem.F.called_set.init.bind (.ref s.heap.objs.size)
      repeat (any_goals (first | assumption | wp_step))
      refine codeAny_mono (codeAny_call_builtin (R := wants (fun r s₂ => r = .none ∧ ∃ h' tk, s₂ = { s with heap := h', toks := tk } ∧ J items.size h' ∧ (∀ b o, s.heap.get? b = some o → h'.get? b = some o)) E)
        PySem.F.called_set.init.plain PySem.F.entry_set_init (check_set_init_1 tyS ?_)) fun r₂ s₂ hr₂ => ?_
      · have hol' : (s.heap.push (newSet w)).get? l = some { cls := .type ty, dict := od, data := .seq items nl, slots := os } := Heap.get?_push_of_some _ hol
        unfold Builtin.«set.__init__» noKeywords Builtin.Frozenset.updateFrom
        generalize hPI : pyIter = PI
        wp_walk
        subst hPI
        refine beg hol' (wpAny_bind (wpAny_runValue ?_))
        have ll : l < s.heap.objs.size := Heap.lt_size hol
        have nI : l ≠ (s.heap.push (newSet w)).objs.size := by rw [Heap.size_push]; exact Nat.ne_of_lt (Nat.lt_succ_of_lt ll)
        have off : s.heap.objs.size ∉ [(s.heap.push (newSet w)).objs.size, l] := by
          rw [Heap.size_push]; simp only [List.mem_cons, List.not_mem_nil, or_false, not_or]
          exact ⟨Nat.ne_of_lt (Nat.lt_succ_self _), Nat.ne_of_gt ll⟩
        have up : ∀ b o, s.heap.get? b = some o → ((s.heap.push (newSet w)).push { cls := .type it, data := .fields #[.ref l, .int 0 0] }).get? b = some o := fun b o e => Heap.get?_push_of_some _ (Heap.get?_push_of_some _ e)
        refine fills_loop ((W _ nI).toS) off (free_above (Nat.le_refl _)) (fun b hb => free_above (by rw [List.mem_singleton.mp hb, Heap.size_push]; exact Nat.le_succ _)) (by simp) T (items.size - 0) 0 _ (by omega) (Nat.zero_le _)
          (St0 _ hol') up ((T (fun _ _ => False)).zero _ _ (Heap.get?_push_of_some _ atS) up) ?_
        intro s' m J' q'
        obtain ⟨h', g2, d', tk', os'⟩ := s'
        have eg : g2 = s.gens := m.gens
        have ed : d' = s.drawn := m.drawn
        have eo : os' = s.os := m.os
        subst eg; subst ed; subst eo
        show wpAny _ _ _ _ _ _
        refine wpAny_pure ?_; show wpAny _ _ (ret Value.none) _ _ _
        exact wpAny_pure ⟨rfl, h', tk', rfl, J', q'⟩
      · cases r₂ with
        | error e => exact hr₂
        | ok fl₂ =>
          cases fl₂ with
          | ret r =>
            obtain ⟨rfl, h', tk, rfl, J', q'⟩ := hr₂
            repeat (any_goals (first | assumption | wp_step))
            exact h _ _ J' q'
          | _ => exact hr₂.elim
    | _ => exact hr.elim
theorem set_of_list {l : Addr} {items : Array Value} {Q : Value → Shared → Prop} {J : Nat → Heap → Prop} (hh : A.handled = none) (hl : s.heap.IsList l items) (T : ∀ E, Fills P w (A.units + 3) E s.heap.objs.size items s.heap J)
    (h : ∀ (h' : Heap) (tk : Nat), J items.size h' → (∀ b o, s.heap.get? b = some o → h'.get? b = some o) → Q (.ref s.heap.objs.size) { s with heap := h', toks := tk }) :
    wpAny (model P w) A (call (.type "set") [.ref l]) Q E s := by
  obtain ⟨⟨oc, od, odata, os⟩, hol, hcl, nl, hdl⟩ := hl
  simp only at hcl hdl
  subst hcl; subst hdl
  exact set_of_seq hol PySem.F.sub_list_set PySem.F.sub_list_frozenset (by decide) (fun e q => wpAny_pyIter_list ⟨_, e, rfl, nl, rfl⟩ q) (fun I nI => Walks.list (by simp [hh]) I l nI items)
    (fun h e => ⟨⟨_, Heap.get?_push_size _ rfl, rfl, rfl⟩, ⟨_, Heap.get?_push_of_some _ e, rfl, nl, rfl⟩⟩) T h
theorem set_of_tuple {l : Addr} {items : Array Value} {Q : Value → Shared → Prop} {J : Nat → Heap → Prop} (hh : A.handled = none) (hl : s.heap.IsTuple l items) (T : ∀ E, Fills P w (A.units + 3) E s.heap.objs.size items s.heap J)
    (h : ∀ (h' : Heap) (tk : Nat), J items.size h' → (∀ b o, s.heap.get? b = some o → h'.get? b = some o) → Q (.ref s.heap.objs.size) { s with heap := h', toks := tk }) :
    wpAny (model P w) A (call (.type "set") [.ref l]) Q E s := by
  obtain ⟨⟨oc, od, odata, os⟩, hol, hcl, nl, hdl⟩ := hl
  simp only at hcl hdl
  subst hcl; subst hdl
  exact set_of_seq hol PySem.F.sub_tuple_set PySem.F.sub_tuple_frozenset (by decide) (fun e q => wpAny_pyIter_tuple ⟨_, e, rfl, nl, rfl⟩ q) (fun I nI => Walks.tuple (by simp [hh]) I l nI items)
    (fun h e => ⟨⟨_, Heap.get?_push_size _ rfl, rfl, rfl⟩, ⟨_, Heap.get?_push_of_some _ e, rfl, nl, rfl⟩⟩) T h
end
end CP
namespace CP
open PySem PySem.Spec PyProof.Rows L2
section
variable {P : Program} {w : World} {A : Around} {E : Value → Shared → Prop} {s : Shared}
/-- the tuple at b holds the texts k -/
abbrev TxtAt (P : Program) (w : World) (h : Heap) (k : List Str) (b : Addr) : Prop := IsTupleKey (strKind P w) h k b
theorem items_txt {k : List Str} {vs : List Value} (h : ItemsAre (strKind P w) k vs) : ∀ v ∈ vs, ∃ x u, v = Value.str x u := by
  induction h with
  | nil => intro v z; cases z
  | @cons k0 v0 ks vs h1 _ ih =>
    intro v z
    rcases List.mem_cons.mp z with rfl | z
    · obtain ⟨u, e⟩ := Value.isStrOf_shape h1
      exact ⟨k0, u, e⟩
    · exact ih v z
theorem cls_txt (n : Nat) (x : Str) (u : Tok) : ofAClassStatement n (.str x u) = pure false := by cases n <;> rfl
theorem hsh_txt (n : Nat) (x : Str) (u : Tok) : hashByValue n (.str x u) = pure false := by cases n <;> rfl
theorem cls_tup {k : List Str} {b : Addr} {Q : Bool → Shared → Prop} (hk : TxtAt P w s.heap k b) (h : Q false s) : wpAny (model P w) A (ofAClassStatement 8 (.ref b)) Q E s := by
  have ty := hk.typeIs
  obtain ⟨o, items, n, ho, _, hd, hi⟩ := hk
  unfold ofAClassStatement
  refine wpAny_bind (wpAny_typeOf ty ?_); dsimp only
  have e : (("tuple" : String) == "tuple") = true := by decide
  simp only [e, if_true, Bool.not_true, Bool.false_eq_true, if_false]
  try refine wpAny_bind (wpAny_pure ?_)
  try simp only [Bool.not_true, Bool.false_eq_true, if_false]
  show wpAny _ _ (seqItems? (.ref b) >>= _) _ _ s
  refine wpAny_bind (wpAny_seqItems ho hd ?_); dsimp only
  refine wpAny_bind ?_; show wpAny _ _ (forIn items _ _) _ _ s
  rw [← Array.forIn_toList]
  refine wpAny_forIn_list _ (fun rest r s' => r.1 = none ∧ s' = s ∧ ∀ v ∈ rest, ∃ x u, v = Value.str x u) _ ?_ ?_ _ _ ⟨rfl, rfl, items_txt hi⟩
  · rintro v rest r s' ⟨hr, rfl, each⟩
    obtain ⟨x, u, rfl⟩ := each v List.mem_cons_self
    rw [cls_txt]
    refine wpAny_bind (wpAny_pure ?_); simp only [Bool.false_eq_true, if_false]
    exact wpAny_pure ⟨rfl, rfl, fun y hy => each y (List.mem_cons_of_mem _ hy)⟩
  · rintro ⟨r1, r2⟩ s' ⟨hr, rfl, _⟩
    simp only at hr; subst hr
    exact wpAny_pure h
theorem hsh_tup {k : List Str} {b : Addr} {Q : Bool → Shared → Prop} (hk : TxtAt P w s.heap k b) (h : ∀ v, Q v s) : wpAny (model P w) A (hashByValue 8 (.ref b)) Q E s := by
  have ty := hk.typeIs
  obtain ⟨o, items, n, ho, _, hd, hi⟩ := hk
  unfold hashByValue
  refine wpAny_bind (wpAny_specialOf ty PySem.F.slot_tuple_hash.lookup ?_)
  show wpAny _ _ (seqItems? (.ref b) >>= _) _ _ s
  refine wpAny_bind (wpAny_seqItems ho hd (wpAny_bind ?_)); show wpAny _ _ (forIn items _ _) _ _ s
  rw [← Array.forIn_toList]
  refine wpAny_forIn_list _ (fun rest r s' => (r.1 = none ∨ r.1 = some false) ∧ s' = s ∧ ∀ v ∈ rest, ∃ x u, v = Value.str x u) _ ?_ ?_ _ _ ⟨.inl rfl, rfl, items_txt hi⟩
  · rintro v rest r s' ⟨hr, rfl, each⟩
    obtain ⟨x, u, rfl⟩ := each v List.mem_cons_self
    rw [hsh_txt]
    refine wpAny_bind (wpAny_pure ?_); simp only [Bool.not_false, if_true]
    exact wpAny_pure (wpAny_pure (h _))
  · rintro ⟨r1, r2⟩ s' ⟨hr, rfl, _⟩
    simp only at hr
    rcases hr with rfl | rfl
    · exact wpAny_pure (h _)
    · exact wpAny_pure (h _)
theorem seen_tup2 {k : List Str} {b : Addr} {Q : Bool → Shared → Prop} {ys : List Value} (hk : TxtAt P w s.heap k b) (hy : ∀ y ∈ ys, ∃ z c, y = Value.ref c ∧ TxtAt P w s.heap z c) (h : Q false s) : wpAny (model P w) A (searchCouldBeSeen (.ref b) ys) Q E s := by
  unfold searchCouldBeSeen
  refine wpAny_bind ?_
  refine wpAny_forIn_list _ (fun rest r s' => r.1 = none ∧ s' = s ∧ ∀ y ∈ rest, ∃ z c, y = Value.ref c ∧ TxtAt P w s.heap z c) _ ?_ ?_ _ _ ⟨rfl, rfl, hy⟩
  · rintro v rest r s' ⟨hr, rfl, each⟩
    obtain ⟨z, c, rfl, hc⟩ := each v List.mem_cons_self
    have each' : ∀ y ∈ rest, ∃ z c, y = Value.ref c ∧ TxtAt P w s'.heap z c := fun y z => each y (List.mem_cons_of_mem _ z)
    dsimp only
    by_cases hv : (b == c || (carriedByValue (.ref b) && carriedByValue (.ref c))) = true
    · exact wp_if_pos hv (wpAny_pure ⟨rfl, rfl, each'⟩)
    · refine wp_if_neg hv (wpAny_bind (wpAny_eqIsQuiet_tuple hk ?_)); simp only [Bool.not_true, Bool.false_eq_true, if_false]
      refine wpAny_bind (wpAny_eqIsQuiet_tuple hc ?_); simp only [Bool.not_true, Bool.false_eq_true, if_false]
      refine wpAny_bind (cls_tup hk ?_); simp only [Bool.false_eq_true, if_false]
      refine wpAny_bind (cls_tup hc ?_); simp only [Bool.false_eq_true, if_false]
      exact wpAny_pure ⟨rfl, rfl, each'⟩
  · rintro ⟨r1, r2⟩ s' ⟨hr, rfl, _⟩
    simp only at hr; subst hr
    exact wpAny_pure h
end
/-- tuples of texts as keys -/
def txtK (P : Program) (w : World) : KF P w (List Str) where
  At := fun h k b => TxtAt P w h k b
  hs := tupleKeyHash (strKind P w)
  eqb := fun hu hx hy h => wpAny_eqBool_tuple (by omega) hx hy h
  seen := fun hx hy h => seen_tup2 hx hy h
  hby := fun hx h => hsh_tup hx h
  pyh := fun hu hx h => wpAny_pyHash_tuple (by omega) hx (h _)
  other := fun hb ho hd hs => by
    obtain ⟨o2, items, n, ho2, hc, hd2, hi⟩ := hb
    refine ⟨o2, items, n, (hs.2 _ fun z => ?_).trans ho2, hc, hd2, hi⟩
    rw [z, ho] at ho2; cases ho2; rw [hd] at hd2; cases hd2
  kept := fun hb hk => by
    obtain ⟨o2, items, n, ho2, r⟩ := hb
    exact ⟨o2, items, n, hk _ _ ho2, r⟩

section
variable {P : Program} {w : World} {κ : Type} [DecidableEq κ] (F : KF P w κ)
/-- a set filled with the objects ks, item by item -/
theorem fills_keys {S : Addr} {items : Array Value} {h0 : Heap} {ks : List (Addr × κ)} {u : Nat} {E : Value → Shared → Prop} (hu : u + 8 < cLine) (hit : items.toList = ks.map fun p => Value.ref p.1) (few : ks.length < 250) (hk : ∀ p ∈ ks, F.At h0 p.2 p.1) :
    Fills P w u E S items h0 (fun i h => (∃ L es ep t, SK F h S L es ep t ∧ Has ks i L)) := by
  have sub : ∀ {i : Nat} {L : List (Addr × κ)} {p : Addr × κ}, Has ks i L → p ∈ L → p ∈ ks := fun g hp => List.mem_of_mem_take (g.sub _ hp)
  refine ⟨fun h b e _ => ⟨[], #[], 0, _, SK.new e, Has.none ks⟩, fun i h h' ⟨L, es, ep, t, R, g⟩ q1 q2 => ⟨L, es, ep, t, R.kept q1 fun p hp => F.kept (hk p (sub g hp)) q2, g⟩, ?_⟩
  intro A' i v s' hA hv ⟨L, es, ep, t, R, g⟩ q2 Q hQ
  obtain ⟨p, hp, rfl⟩ : ∃ p, ks[i]? = some p ∧ v = .ref p.1 := by
    have e : items.toList[i]? = some v := by rw [Array.getElem?_toList]; exact hv
    rw [hit, List.getElem?_map] at e
    cases hq : ks[i]? with
    | none => rw [hq] at e; cases e
    | some p => rw [hq] at e; exact ⟨p, rfl, (Option.some.inj e).symm⟩
  have hx : F.At s'.heap p.2 p.1 := F.kept (hk p (List.mem_of_getElem? hp)) q2
  unfold setAdd
  refine wpAny_holding (wpAny_bind (F.pyh (by omega) hx fun tn => ?_))
  have li : i < ks.length := (List.getElem?_eq_some_iff.mp hp).1
  refine put_in (s := { s' with toks := s'.toks + tn }) R hx (by omega) (by have := g.len; omega) fun b h' L' es' ep' t' sb R' c1 c2 => ?_
  exact hQ b h' tn sb ⟨L', es', ep', t', R', g.next hp c1 c2⟩
end
section
variable {P : Program} {w : World}
theorem txts_get {us : List Value} {xs : List Str} (r : Vals (xs.map V.str) us) (i : Nat) (v : Value) (e : us[i]? = some v) : ∃ x u, xs[i]? = some x ∧ v = .str x u := by
  have li : i < xs.length := by have := (List.getElem?_eq_some_iff.mp e).1; rw [← r.length, List.length_map] at this; exact this
  have hx : xs[i]? = some xs[i] := List.getElem?_eq_getElem li
  obtain ⟨u, e2, rv⟩ := r.get (i := i) (x := V.str xs[i]) (by rw [List.getElem?_map, hx]; rfl)
  rw [e] at e2; cases e2
  obtain ⟨t, rfl⟩ := rv
  exact ⟨_, t, hx, rfl⟩
/-- a set filled with texts -/
theorem fills_txts {S : Addr} {items : Array Value} {h0 : Heap} {xs : List Str} {u : Nat} {E : Value → Shared → Prop} (hi : Vals (xs.map V.str) items.toList) (few : xs.length + 1 < scanBound) :
    Fills P w u E S items h0 (fun i h => ∃ n, h.SetOf (strKind P w) S (fun k => decide (k ∈ xs.take i)) n ∧ n ≤ i ∧ (xs.Nodup → n = i) ∧ (n = i → (xs.take i).Nodup)) := by
  refine ⟨fun h b e _ => ⟨0, ?_, Nat.le_refl _, fun _ => rfl, fun _ => List.nodup_nil⟩, fun i h h' ⟨n, R, c⟩ q1 _ => ⟨n, ?_, c⟩, ?_⟩
  · exact SetOf_congr ((setObjOf_fresh (knd := strKind P w) b).setOf e (by unfold scanBound; omega)) (fun k => by simp) rfl
  · obtain ⟨o, es, ep, tb, ho, rest⟩ := R
    exact ⟨o, es, ep, tb, q1 o ho, rest⟩
  · intro A' i v s' _ hv ⟨n, R, c1, c2, c3⟩ _ Q hQ
    obtain ⟨x, u, hx, rfl⟩ := txts_get hi i v (by rw [Array.getElem?_toList]; exact hv)
    have li : i < xs.length := (List.getElem?_eq_some_iff.mp hx).1
    unfold setAdd
    refine wpAny_holding (wpAny_bind ((strKind P w).pyHash (k := x) (strKind_is _ _ _ _) ?_))
    refine wpAny_setAddHashed_of (knd := strKind P w) (s := { s' with toks := s'.toks + 1 }) (strKind_is _ _ _ _) rfl R (by omega) fun h' sb R' => ?_
    refine hQ _ h' 1 sb ⟨_, SetOf_congr R' (fun k => ?_) rfl, ?_, fun nd => ?_, fun z => ?_⟩
    · rw [take_one hx]; simp [Bool.decide_or]
    · split <;> omega
    · have : x ∉ xs.take i := fun z => by
        obtain ⟨j, hj⟩ := List.getElem?_of_mem z
        have hji : j < i := Nat.lt_of_lt_of_le (List.getElem?_eq_some_iff.mp hj).1 (List.length_take_le _ _)
        rw [List.getElem?_take_of_lt hji] at hj
        obtain ⟨b1, e1⟩ := List.getElem?_eq_some_iff.mp hj
        obtain ⟨b2, e2⟩ := List.getElem?_eq_some_iff.mp hx
        exact (List.pairwise_iff_getElem.mp nd) j i b1 b2 hji (e1.trans e2.symm)
      rw [decide_eq_false this]; simp [c2 nd]
    · by_cases c : x ∈ xs.take i
      · rw [decide_eq_true c, if_pos rfl] at z; omega
      · rw [decide_eq_false c, if_neg (by decide)] at z
        rw [take_one hx]
        refine List.nodup_append.mpr ⟨c3 (by omega), by simp, fun y hy y' hy' e => c ?_⟩
        simp at hy'
        rw [← hy', ← e]; exact hy
end
/-! ### len(set(xs)) -/
section
variable {X : Cx} {e : Expr} {te : TE} {p p2 q pos : Pos}
/-- xs a row of texts -/
def tLenSetX (K : PySem.W.Frag) (te : TE) : TE := fun σ H Q => te σ H fun x H1 => ∃ (l : Addr) (xs : List Str), x = V.ref l ∧ (SqL K H1 l (xs.map V.str) ∨ SqT K H1 l (xs.map V.str)) ∧ xs.length < 1000 ∧
  ∀ n : Nat, n ≤ xs.length → (n = xs.length ↔ xs.Nodup) → Q (.int (n : Int)) H1
theorem pe_lenSetX (hc : X.calm = true) (hg : Gl X "len") (hm : X.mg "len" = none) (hg2 : Gl X "set") (hm2 : X.mg "set" = none) (he : PE X e te)
    (na : starEach [e] X.env = (false, eval e X.env) :: starEach [] X.env := by rfl) : PE X (.Call (.Name "len" p) [.Call (.Name "set" p2) [e] [] q] [] pos) (tLenSetX X.K te) := by
  refine ⟨fun pins s σ H Q I h => Call_ (ld_blt I hg hm PySem.boot_len ?_)⟩
  refine PyProof.Rows.callWith_builtin1 (PyProof.Rows.args_cons ?_ rfl) rfl rfl
  refine Call_ (ld_blt I hg2 hm2 PyProof.Rows.boot_set ?_)
  refine PyProof.Rows.callWith_type1 (PyProof.Rows.args_cons (thn (he.run pins s σ H _ I h) fun v s1 ⟨x, H1, I1, r1, l, xs, ex, hq, few, k⟩ => PyProof.Rows.args_nil ?_) na) na rfl
  subst ex; cases r1
  rcases hq with hq | hq
  · obtain ⟨its, r, pl, _⟩ := I1.list hq
    refine set_of_list (I1.ok.hd hc) pl.isList (fun E => fills_txts (xs := xs) (by simpa using r) (by unfold scanBound; omega)) fun h' tk ⟨n, ⟨o, es, ep, t, ho, hex, hd, _, _, _, hf, hn⟩, c1, c2, c3⟩ keep => ?_
    have sz : its.toArray.size = xs.length := by rw [List.size_toArray, ← r.length, List.length_map]
    rw [sz] at c1 c2 c3; rw [List.take_length] at c3
    exact PyProof.Rows.args_nil (call_len_set ho hex hd hf (by rw [hn]; omega) ⟨.int n, H1, (I1.kept (t' := tk) keep).tok _, ⟨_, by rw [hn]⟩, k n c1 ⟨c3, c2⟩⟩)
  · obtain ⟨its, r, pl, _⟩ := I1.tuple hq
    refine set_of_tuple (I1.ok.hd hc) pl (fun E => fills_txts (xs := xs) (by simpa using r) (by unfold scanBound; omega)) fun h' tk ⟨n, ⟨o, es, ep, t, ho, hex, hd, _, _, _, hf, hn⟩, c1, c2, c3⟩ keep => ?_
    have sz : its.toArray.size = xs.length := by rw [List.size_toArray, ← r.length, List.length_map]
    rw [sz] at c1 c2 c3; rw [List.take_length] at c3
    exact PyProof.Rows.args_nil (call_len_set ho hex hd hf (by rw [hn]; omega) ⟨.int n, H1, (I1.kept (t' := tk) keep).tok _, ⟨_, by rw [hn]⟩, k n c1 ⟨c3, c2⟩⟩)
/-- xs a row of tuples of texts -/
def tLenSetP (K : PySem.W.Frag) (te : TE) : TE := fun σ H Q => te σ H fun x H1 => ∃ (l : Addr) (ks : List (Addr × List Str)), x = V.ref l ∧ (SqL K H1 l (ks.map fun p => V.ref p.1) ∨ SqT K H1 l (ks.map fun p => V.ref p.1)) ∧ (∀ p ∈ ks, SqT K H1 p.1 (p.2.map V.str)) ∧ ks.length < 250 ∧
  ∀ n : Nat, n ≤ ks.length → (n = ks.length ↔ (ks.map (·.2)).Nodup) → Q (.int (n : Int)) H1
theorem txt_items {P : Program} {w : World} : ∀ {k : List Str} {us : List Value}, Vals (k.map V.str) us → ItemsAre (strKind P w) k us
  | [], us, r => by cases r; exact .nil
  | x :: k, us, r => by
    cases r with
    | @cons _ u _ us h1 h2 =>
      obtain ⟨t, rfl⟩ := h1
      exact .cons (strKind_is _ _ _ _) (txt_items h2)
theorem txt_at {pins : List (Addr × Obj)} {σ : L2.St} {H : Hp} {s : Shared} {b : Addr} {k : List Str} (I : L2.Inv X pins σ H s) (h : SqT X.K H b (k.map V.str)) : TxtAt X.prog X.w s.heap k b := by
  obtain ⟨its, r, ⟨o, ho, hc, n, hd⟩, _⟩ := I.tuple h
  exact ⟨o, its.toArray, n, ho, hc, hd, by simpa using txt_items r⟩
theorem refs_only : ∀ {κ : Type} {ks : List (Addr × κ)} {us : List Value}, Vals (ks.map fun p => V.ref p.1) us → us = ks.map fun p => Value.ref p.1
  | _, [], us, r => by cases r; rfl
  | _, p :: ks, us, r => by
    cases r with
    | @cons _ u _ us h1 h2 =>
      obtain rfl : u = Value.ref p.1 := h1
      rw [refs_only h2]; rfl
theorem pe_lenSetP (hc : X.calm = true) (hg : Gl X "len") (hm : X.mg "len" = none) (hg2 : Gl X "set") (hm2 : X.mg "set" = none) (hu : X.A.units + 64 < cLine) (he : PE X e te)
    (na : starEach [e] X.env = (false, eval e X.env) :: starEach [] X.env := by rfl) : PE X (.Call (.Name "len" p) [.Call (.Name "set" p2) [e] [] q] [] pos) (tLenSetP X.K te) := by
  refine ⟨fun pins s σ H Q I h => Call_ (ld_blt I hg hm PySem.boot_len ?_)⟩
  refine PyProof.Rows.callWith_builtin1 (PyProof.Rows.args_cons ?_ rfl) rfl rfl
  refine Call_ (ld_blt I hg2 hm2 PyProof.Rows.boot_set ?_)
  refine PyProof.Rows.callWith_type1 (PyProof.Rows.args_cons (thn (he.run pins s σ H _ I h) fun v s1 ⟨x, H1, I1, r1, l, ks, ex, hq, hks, few, k⟩ => PyProof.Rows.args_nil ?_) na) na rfl
  subst ex; cases r1
  have ats : ∀ p ∈ ks, (txtK X.prog X.w).At s1.heap p.2 p.1 := fun p hp => txt_at I1 (hks p hp)
  rcases hq with hq | hq
  · obtain ⟨its, r, pl, _⟩ := I1.list hq
    have sz : its.toArray.size = ks.length := by rw [List.size_toArray, ← r.length, List.length_map]
    refine set_of_list (I1.ok.hd hc) pl.isList (fun E => fills_keys (txtK X.prog X.w) (ks := ks) (by omega) (by simpa using refs_only r) few ats) fun h' tk ⟨L, es, ep, t, R, g⟩ keep => ?_
    rw [sz] at g
    obtain ⟨o, ho, hex, hd⟩ := R.obj
    have cz := size_of_rows R.row
    have c3 := g.once; rw [List.take_length] at c3
    exact PyProof.Rows.args_nil (call_len_set ho hex hd (R.fit (s := { s1 with heap := h' })) (by have := R.few; omega) ⟨.int L.length, H1, (I1.kept (t' := tk) keep).tok _, ⟨_, by rw [cz]⟩, k L.length g.len ⟨c3, g.full⟩⟩)
  · obtain ⟨its, r, pl, _⟩ := I1.tuple hq
    have sz : its.toArray.size = ks.length := by rw [List.size_toArray, ← r.length, List.length_map]
    refine set_of_tuple (I1.ok.hd hc) pl (fun E => fills_keys (txtK X.prog X.w) (ks := ks) (by omega) (by simpa using refs_only r) few ats) fun h' tk ⟨L, es, ep, t, R, g⟩ keep => ?_
    rw [sz] at g
    obtain ⟨o, ho, hex, hd⟩ := R.obj
    have cz := size_of_rows R.row
    have c3 := g.once; rw [List.take_length] at c3
    exact PyProof.Rows.args_nil (call_len_set ho hex hd (R.fit (s := { s1 with heap := h' })) (by have := R.few; omega) ⟨.int L.length, H1, (I1.kept (t' := tk) keep).tok _, ⟨_, by rw [cz]⟩, k L.length g.len ⟨c3, g.full⟩⟩)
end
end CP
/-! Pairs of pairs of texts as keys: sets of them -/
namespace CP
open PySem PySem.Spec PyProof.Rows L2
abbrev PP := (Str × Str) × (Str × Str)
def nk (p : PP) : NestedKey := .tup [.tup [.text p.1.1, .text p.1.2], .tup [.text p.2.1, .text p.2.2]]
theorem nk_inj {p q : PP} (h : nk p = nk q) : p = q := by
  obtain ⟨⟨a, b⟩, ⟨c, d⟩⟩ := p
  obtain ⟨⟨a', b'⟩, ⟨c', d'⟩⟩ := q
  simp only [nk, NestedKey.tup.injEq, List.cons.injEq, NestedKey.text.injEq, and_true] at h
  obtain ⟨⟨rfl, rfl⟩, rfl, rfl⟩ := h
  rfl
theorem nk_depth (p : PP) : (nk p).depth = 2 := by simp [nk, NestedKey.depth, NestedKey.depthAll]
section
variable {P : Program} {w : World}
def ClsAt (P : Program) (w : World) (n : Nat) (s : Shared) (v : Value) : Prop := ∀ (A : Around) (E : Value → Shared → Prop) (Q : Bool → Shared → Prop), Q false s → wpAny (model P w) A (ofAClassStatement n v) Q E s
def HbyAt (P : Program) (w : World) (n : Nat) (s : Shared) (v : Value) : Prop := ∀ (A : Around) (E : Value → Shared → Prop) (Q : Bool → Shared → Prop), (∀ b, Q b s) → wpAny (model P w) A (hashByValue n v) Q E s
theorem ClsAt.txt {n : Nat} {s : Shared} (x : Str) (u : Tok) : ClsAt P w n s (.str x u) := fun A E Q h => by rw [cls_txt]; exact wpAny_pure h
theorem HbyAt.txt {n : Nat} {s : Shared} (x : Str) (u : Tok) : HbyAt P w n s (.str x u) := fun A E Q h => by rw [hsh_txt]; exact wpAny_pure (h false)
theorem ClsAt.tup {n : Nat} {s : Shared} {b : Addr} {o : Obj} {vs : Array Value} {m : Nat} (ho : s.heap.get? b = some o) (hc : o.cls = .type "tuple") (hd : o.data = .seq vs m) (each : ∀ v ∈ vs.toList, ClsAt P w n s v) : ClsAt P w (n + 1) s (.ref b) := fun A E Q h => by
  have ty : s.TypeIs (.ref b) "tuple" := ⟨o, ho, hc⟩
  unfold ofAClassStatement
  refine wpAny_bind (wpAny_typeOf ty ?_); dsimp only
  have e : (("tuple" : String) == "tuple") = true := by decide
  simp only [e, if_true, Bool.not_true, Bool.false_eq_true, if_false]
  try refine wpAny_bind (wpAny_pure ?_)
  try simp only [Bool.not_true, Bool.false_eq_true, if_false]
  refine wpAny_bind (m := seqItems? (.ref b)) (wpAny_seqItems ho hd ?_); dsimp only
  refine wpAny_bind ?_; show wpAny _ _ (forIn vs _ _) _ _ s
  rw [← Array.forIn_toList]
  refine wpAny_forIn_list _ (fun rest r s' => r.1 = none ∧ s' = s ∧ ∀ v ∈ rest, ClsAt P w n s v) _ ?_ ?_ _ _ ⟨rfl, rfl, each⟩
  · rintro v rest r s' ⟨hr, rfl, all⟩
    refine wpAny_bind (all v List.mem_cons_self _ _ _ ?_); simp only [Bool.false_eq_true, if_false]
    exact wpAny_pure ⟨rfl, rfl, fun y hy => all y (List.mem_cons_of_mem _ hy)⟩
  · rintro ⟨r1, r2⟩ s' ⟨hr, rfl, _⟩
    simp only at hr; subst hr
    exact wpAny_pure h
theorem HbyAt.tup {n : Nat} {s : Shared} {b : Addr} {o : Obj} {vs : Array Value} {m : Nat} (ho : s.heap.get? b = some o) (hc : o.cls = .type "tuple") (hd : o.data = .seq vs m) (each : ∀ v ∈ vs.toList, HbyAt P w n s v) : HbyAt P w (n + 1) s (.ref b) := fun A E Q h => by
  have ty : s.TypeIs (.ref b) "tuple" := ⟨o, ho, hc⟩
  unfold hashByValue
  refine wpAny_bind (wpAny_specialOf ty PySem.F.slot_tuple_hash.lookup ?_)
  refine wpAny_bind (m := seqItems? (.ref b)) (wpAny_seqItems ho hd (wpAny_bind ?_)); show wpAny _ _ (forIn vs _ _) _ _ s
  rw [← Array.forIn_toList]
  refine wpAny_forIn_list _ (fun rest r s' => (r.1 = none ∨ r.1 = some false) ∧ s' = s ∧ ∀ v ∈ rest, HbyAt P w n s v) _ ?_ ?_ _ _ ⟨.inl rfl, rfl, each⟩
  · rintro v rest r s' ⟨hr, rfl, all⟩
    refine wpAny_bind (all v List.mem_cons_self _ _ _ fun c => ?_)
    cases c
    · simp only [Bool.not_false, if_true]
      exact wpAny_pure (wpAny_pure (h _))
    · simp only [Bool.not_true, Bool.false_eq_true, if_false]
      exact wpAny_pure ⟨.inl rfl, rfl, fun y hy => all y (List.mem_cons_of_mem _ hy)⟩
  · rintro ⟨r1, r2⟩ s' ⟨hr, rfl, _⟩
    simp only at hr
    rcases hr with rfl | rfl
    · exact wpAny_pure (h _)
    · exact wpAny_pure (h _)
abbrev PpAt (h : Heap) (k : PP) (b : Addr) : Prop := NestedIs h (nk k) (.ref b)
/-- what stands behind such a key -/
theorem pp_open {h : Heap} {k : PP} {b : Addr} (x : PpAt h k b) {T : Nat → Value → Prop} (text : ∀ n y u, T n (.str y u)) (tup : ∀ n a o vs m, h.get? a = some o → o.cls = .type "tuple" → o.data = .seq vs m → (∀ v ∈ vs.toList, T n v) → T (n + 1) (.ref a)) (n : Nat) : T (n + 1 + 1) (.ref b) := by
  have inner : ∀ {u v : Str} {z : Value}, NestedIs h (.tup [.text u, .text v]) z → T (n + 1) z := fun {u v z} q => by
    cases q with
    | tup h1 h2 h3 h4 =>
      refine tup n _ _ _ _ h1 h2 h3 fun y hy => ?_
      generalize hl : Array.toList _ = l at h4 hy
      cases h4 with
      | cons a1 a2 =>
        cases a2 with
        | cons b1 b2 =>
          cases b2
          cases a1; cases b1
          simp only [List.mem_cons, List.not_mem_nil, or_false] at hy
          rcases hy with rfl | rfl <;> exact text _ _ _
  cases x with
  | tup h1 h2 h3 h4 =>
    refine tup (n + 1) _ _ _ _ h1 h2 h3 fun y hy => ?_
    generalize hl : Array.toList _ = l at h4 hy
    cases h4 with
    | cons a1 a2 =>
      cases a2 with
      | cons b1 b2 =>
        cases b2
        simp only [List.mem_cons, List.not_mem_nil, or_false] at hy
        rcases hy with rfl | rfl
        · exact inner a1
        · exact inner b1
theorem pp_cls {s : Shared} {k : PP} {b : Addr} (x : PpAt s.heap k b) : ClsAt P w 8 s (.ref b) := pp_open x (T := fun n v => ClsAt P w n s v) (fun _ _ _ => .txt _ _) (fun _ _ _ _ _ h1 h2 h3 h4 => .tup h1 h2 h3 h4) 6
theorem pp_hby {s : Shared} {k : PP} {b : Addr} (x : PpAt s.heap k b) : HbyAt P w 8 s (.ref b) := pp_open x (T := fun n v => HbyAt P w n s v) (fun _ _ _ => .txt _ _) (fun _ _ _ _ _ h1 h2 h3 h4 => .tup h1 h2 h3 h4) 6
theorem pp_seen {A : Around} {E : Value → Shared → Prop} {s : Shared} {k : PP} {b : Addr} {Q : Bool → Shared → Prop} {ys : List Value} (hk : PpAt s.heap k b) (hy : ∀ y ∈ ys, ∃ z c, y = Value.ref c ∧ PpAt s.heap z c) (h : Q false s) : wpAny (model P w) A (searchCouldBeSeen (.ref b) ys) Q E s := by
  unfold searchCouldBeSeen
  refine wpAny_bind ?_
  refine wpAny_forIn_list _ (fun rest r s' => r.1 = none ∧ s' = s ∧ ∀ y ∈ rest, ∃ z c, y = Value.ref c ∧ PpAt s.heap z c) _ ?_ ?_ _ _ ⟨rfl, rfl, hy⟩
  · rintro v rest r s' ⟨hr, rfl, each⟩
    obtain ⟨z, c, rfl, hc⟩ := each v List.mem_cons_self
    have more : ∀ y ∈ rest, ∃ z c, y = Value.ref c ∧ PpAt s'.heap z c := fun y z => each y (List.mem_cons_of_mem _ z)
    dsimp only
    by_cases hv : (b == c || (carriedByValue (.ref b) && carriedByValue (.ref c))) = true
    · exact wp_if_pos hv (wpAny_pure ⟨rfl, rfl, more⟩)
    · refine wp_if_neg hv (wpAny_bind (quiet_key _ _ 8 s' hk (by rw [nk_depth]; omega) _ _ _ ?_)); simp only [Bool.not_true, Bool.false_eq_true, if_false]
      refine wpAny_bind (quiet_key _ _ 8 s' hc (by rw [nk_depth]; omega) _ _ _ ?_); simp only [Bool.not_true, Bool.false_eq_true, if_false]
      refine wpAny_bind (pp_cls hk _ _ _ ?_); simp only [Bool.false_eq_true, if_false]
      refine wpAny_bind (pp_cls hc _ _ _ ?_); simp only [Bool.false_eq_true, if_false]
      exact wpAny_pure ⟨rfl, rfl, more⟩
  · rintro ⟨r1, r2⟩ s' ⟨hr, rfl, _⟩
    simp only at hr; subst hr
    exact wpAny_pure h
end
/-- pairs as keys -/
def ppK (P : Program) (w : World) : KF P w PP where
  At := fun h k b => PpAt h k b
  hs := fun k => (nk k).hash w
  eqb := fun {A E s x y a b Q} hu hx hy h => (nestedKind P w).eqBool hu ⟨hx, by rw [nk_depth]; omega⟩ ⟨hy, by rw [nk_depth]; omega⟩ (by
    have e : decide (nk x = nk y) = decide (x = y) := decide_eq_decide.mpr ⟨nk_inj, fun z => by rw [z]⟩
    rw [e]; exact h)
  seen := fun hx hy h => pp_seen hx hy h
  hby := fun hx h => pp_hby hx _ _ _ h
  pyh := fun {A E s x b Q} hu hx h => pyHash_key _ _ _ _ _ hx (by rw [nk_depth]; omega) (h _)
  other := fun hb ho hd hs => NestedIs.at (fun c oc vs n hc hv => by
    refine (hs.2 c fun z => ?_).trans hc
    rw [z, ho] at hc; cases hc; rw [hd] at hv; cases hv) _ _ hb
  kept := fun hb hk => NestedIs.at (fun c oc vs n hc _ => hk c oc hc) _ _ hb
/-! ### over the layer -/
/-- at b a tuple of two edges worth k -/
def PpH (H : Hp) (b : Addr) (k : PP) : Prop := ∃ e f, H b = some (.tup [.ref e, .ref f]) ∧ H e = some (.tup [.str k.1.1, .str k.1.2]) ∧ H f = some (.tup [.str k.2.1, .str k.2.2])
theorem PpH.same {H H' : Hp} {b : Addr} {k : PP} (h : PpH H b k) (s : Same H H') : PpH H' b k := let ⟨e, f, x, y, z⟩ := h; ⟨e, f, s _ _ x, s _ _ y, s _ _ z⟩
/-- what is no tuple may change -/
theorem PpH.upd {H : Hp} {a b : Addr} {k : PP} {o o' : HO} (h : PpH H b k) (ha : H a = some o) (n : ∀ xs, o ≠ .tup xs) : PpH (L2.upd H a o') b k := by
  obtain ⟨e, f, x, y, z⟩ := h
  have ne : ∀ {c : Addr} {xs : List V}, H c = some (.tup xs) → c ≠ a := fun hc q => by rw [q, ha] at hc; exact n _ (Option.some.inj hc)
  exact ⟨e, f, by rw [upd_ne (ne x)]; exact x, by rw [upd_ne (ne y)]; exact y, by rw [upd_ne (ne z)]; exact z⟩
section
variable {X : Cx} {pins : List (Addr × Obj)} {σ : L2.St} {H : Hp} {s : Shared}
theorem edge_is {e : Addr} {u v : Str} (I : L2.Inv X pins σ H s) (h : H e = some (.tup [.str u, .str v])) : NestedIs s.heap (.tup [.text u, .text v]) (.ref e) := by
  obtain ⟨its, r, ⟨o, ho, hc, n, hd⟩, _⟩ := I.tuple (SqT.of h)
  obtain ⟨v1, v2, rfl, ⟨t1, rfl⟩, ⟨t2, rfl⟩⟩ := vals2 r
  exact .tup ho hc hd (.cons (.text _ _) (.cons (.text _ _) .nil))
theorem pp_is {b : Addr} {k : PP} (I : L2.Inv X pins σ H s) (h : PpH H b k) : PpAt s.heap k b := by
  obtain ⟨e, f, hb, he, hf⟩ := h
  obtain ⟨its, r, ⟨o, ho, hc, n, hd⟩, _⟩ := I.tuple (SqT.of hb)
  obtain ⟨v1, v2, rfl, r1, r2⟩ := vals2 r
  cases (show v1 = Value.ref e from r1)
  cases (show v2 = Value.ref f from r2)
  exact .tup ho hc hd (.cons (edge_is I he) (.cons (edge_is I hf) .nil))
/-- the set at a, but for the keys' own tuples -/
def SetIn (P : Program) (w : World) (a : Addr) (L : List (Addr × PP)) (h : Heap) : Prop :=
  ∃ es ep t, (∃ o, h.get? a = some o ∧ o.ExactSet ∧ o.data = .set es ep t) ∧ es.toList = rowsK (ppK P w) L ∧ TabG t (hsK (ppK P w) L) ∧ (L.map (·.2)).Nodup ∧ L.length * 5 < t.mask * 3 ∧ L.length < 250
def SetN (P : Program) (w : World) (a : Addr) (L : List (Addr × PP)) : HO := .ext (SetIn P w a L)
theorem setN_ok {P : Program} {w : World} {H : Hp} {h : Heap} {a : Addr} {L : List (Addr × PP)} (R : SetIn P w a L h) : ObjOk P w H h a (SetN P w a L) := by
  have ⟨es, ep, t, ⟨o, ho, _⟩, _⟩ := R
  exact ⟨R, ⟨o, ho⟩, fun h1 h2 ⟨es', ep', t', ⟨o', ho', r'⟩, q'⟩ k => ⟨es', ep', t', ⟨o', k o' ho', r'⟩, q'⟩⟩
theorem SK.isIn {P : Program} {w : World} {h : Heap} {a : Addr} {L : List (Addr × PP)} {es : Array (Int × Value)} {ep : Nat} {t : SetTable} (R : SK (ppK P w) h a L es ep t) : SetIn P w a L h := ⟨es, ep, t, R.obj, R.row, R.tab, R.nod, R.roo, R.few⟩
theorem setN_get {a : Addr} {L : List (Addr × PP)} (I : L2.Inv X pins σ H s) (ha : H a = some (SetN X.prog X.w a L)) (hk : ∀ p ∈ L, PpH H p.1 p.2) : ∃ es ep t, SK (ppK X.prog X.w) s.heap a L es ep t := by
  obtain ⟨es, ep, t, h1, h2, h3, h4, h5, h6⟩ := (I.hok a _ ha).1
  exact ⟨es, ep, t, h1, h2, h3, h4, fun p hp => pp_is I (hk p hp), h5, h6⟩
/-- set() -/
def rSet0N (P : Program) (w : World) : List V → Hp → VK → Prop := fun xs H Q => xs = [] ∧ ∀ p, H p = none → Q (.ref p) (L2.upd H p (SetN P w p []))
theorem cr_set0N : CallR X (.type "set") (rSet0N X.prog X.w) := by
  intro pins s σ H xs us Q I r h
  obtain ⟨rfl, q⟩ := h
  cases r
  refine setR_new fun _ => ?_
  have new := SK.new (F := ppK X.prog X.w) (h := s.heap.push (newSet X.w)) (a := s.heap.objs.size) (b := !X.w.params.followText "set-order") (Heap.get?_push_size _ rfl)
  exact ⟨.ref _, L2.upd H s.heap.objs.size (SetN X.prog X.w s.heap.objs.size []), I.laid (t' := s.toks) (fun b u e => Heap.get?_push_of_some _ e) (Nat.le_refl _) (setN_ok new.isIn), rfl, q _ (I.hok.fresh (Nat.le_refl _))⟩
/-- seen.add(pair) -/
def rSAddN (P : Program) (w : World) : V → List V → Hp → VK → Prop := fun x xs H Q => ∃ (a b : Addr) (k : PP) (L : List (Addr × PP)), x = V.ref a ∧ xs = [.ref b] ∧ H a = some (SetN P w a L) ∧ (∀ p ∈ L, PpH H p.1 p.2) ∧ PpH H b k ∧ L.length + 1 < 250 ∧
  ∀ L', (k ∈ L.map (·.2) → L' = L) → (k ∉ L.map (·.2) → L'.Perm ((b, k) :: L)) → Q .non (L2.upd H a (SetN P w a L'))
theorem mt_saddN (hu : X.A.units + 64 < cLine) : MtR X "set.add" (rSAddN X.prog X.w) := by
  intro pins s σ H x xs v us Q I rx rxs h
  obtain ⟨a, b, k, L, rfl, rfl, ha, hk, hb, few, q⟩ := h
  cases rx
  rw [Vals.ref1 rxs]
  obtain ⟨es, ep, t, R⟩ := setN_get I ha hk
  obtain ⟨o, ho, hex, hd⟩ := R.obj
  have ty : s.TypeIs (.ref a) "set" := ⟨o, ho, hex.1⟩
  refine wpAny_call_entry PySem.F.slot_set_add ty PySem.F.entry_set_add ?_ (PySem.F.args_set_add_2 _ _)
  unfold Builtin.«set.add» Builtin.Frozenset.oneOther
  simp only [List.isEmpty_nil, bind_assoc]
  unfold Builtin.Frozenset.addrOf setAdd
  refine wpAny_bind (wpAny_pure ?_)
  try dsimp only
  refine wpAny_bind (wpAny_pure ?_)
  try dsimp only
  refine wpAny_bind (wpAny_holding (wpAny_bind ((ppK X.prog X.w).pyh (by simp; omega) (pp_is I hb) fun tn => ?_)))
  refine put_in (s := { s with toks := s.toks + tn }) R (show (ppK X.prog X.w).At s.heap k b from pp_is I hb) (by simp; omega) few fun c h' L' es' ep' t' sb R' c1 c2 => ?_
  show wpAny _ _ (ret Value.none) _ _ _
  obtain ⟨o', ho', _⟩ := R'.obj
  exact wpAny_pure ⟨_, rfl, .non, L2.upd H a (SetN X.prog X.w a L'), I.write (e := a) (t' := s.toks + tn) (by rw [ha]; trivial) (.inl rfl) (fun b u hb hu => (sb.2 b hb).trans hu) ⟨o', ho'⟩ (setN_ok R'.isIn), rfl, q L' c1 c2⟩
/-- pair in seen -/
def rSInN (P : Program) (w : World) : V → V → Hp → VK → Prop := fun x y H Q => ∃ (b a : Addr) (k : PP) (L : List (Addr × PP)), x = .ref b ∧ y = V.ref a ∧ H a = some (SetN P w a L) ∧ (∀ p ∈ L, PpH H p.1 p.2) ∧ PpH H b k ∧ Q (.bl (decide (k ∈ L.map (·.2)))) H
theorem or_sinN (hu : X.A.units + 64 < cLine) : OpR X (compareOp .In) (rSInN X.prog X.w) := by
  intro pins s σ H x y v u Q I rx ry h
  obtain ⟨b, a, k, L, rfl, rfl, ha, hk, hb, q⟩ := h
  cases rx
  cases ry
  obtain ⟨es, ep, t, R⟩ := setN_get I ha hk
  obtain ⟨o, ho, hex, hd⟩ := R.obj
  have ty : s.TypeIs (.ref a) "set" := ⟨o, ho, hex.1⟩
  show wpAny _ _ (do return Value.bool (← contains (.ref a) (.ref b))) _ _ s
  refine wpAny_bind ?_
  unfold contains
  try with_reducible refine wpAny_holding ?_
  refine wpAny_bind (wpAny_specialOf ty PySem.F.slot_set_contains.lookup ?_)
  rw [if_neg (by rw [beq_builtin_none]; exact Bool.false_ne_true)]
  refine wpAny_bind (wpAny_callSpecialUnlessNone?_slot (name := Str.ofString "__contains__") ty PySem.F.slot_set_contains (wpAny_call_entry PySem.F.slot_set_contains ty PySem.entry_set_contains ?_ (PySem.F.args_set_contains_2 _ _)))
  unfold Builtin.«frozenset.__contains__» Builtin.Frozenset.oneOther
  simp only [List.isEmpty_nil, bind_assoc]
  unfold Builtin.Frozenset.addrOf Builtin.Frozenset.withSetAsKey setContains
  refine wpAny_bind (wpAny_pure ?_)
  try dsimp only
  refine wpAny_bind (wpAny_pure ?_)
  try dsimp only
  refine wpAny_bind (wpAny_tryCatch (wpAny_holding (wpAny_bind ((ppK X.prog X.w).pyh (by simp; omega) (pp_is I hb) fun tn => ?_))))
  refine wpAny_bind (find_in (s := { s with toks := s.toks + tn }) R (show (ppK X.prog X.w).At s.heap k b from pp_is I hb) (by simp; omega) fun r hr => wpAny_pure ?_)
  show wpAny _ _ (ret (Value.bool r.isSome)) _ _ _
  have hr2 : r.isSome = decide (k ∈ L.map (·.2)) := hr.trans (decide_eq_decide.mpr Iff.rfl)
  rw [hr2]
  exact wpAny_pure ⟨_, rfl, wpAny_truthy_bool (wpAny_pure ⟨.bl _, H, I.tok _, rfl, q⟩)⟩
end
end CP
namespace CP
open PySem PySem.Spec PyProof.Rows L2
section
variable {X : Cx} {o e : Expr} {es : List Expr} {to : TE} {t : TA} {apos cpos : Pos}
def tSAddN (P : Program) (w : World) (to : TE) (t : TA) : TE := fun σ H Q => to σ H fun x H1 => (∃ a L, x = V.ref a ∧ H1 a = some (SetN P w a L)) ∧ t σ H1 fun xs H2 => rSAddN P w x xs H2 Q
/-- seen.add(pair), as it is written -/
theorem pe_saddNN (hu : X.A.units + 64 < cLine) (ho : PE X o to) (ha : PA X (e :: es) t) (hbase : attributeBase o "add" X.env (eval o X.env) = eval o X.env := by rfl)
    (hfew : ((backTo cpos (starEach (e :: es) X.env)).all (fun x => !x.1) && (backToKw cpos (keywordEach [] X.env)).all (fun x => x.1.isSome) && decide ((e :: es).length + ([] : List Keyword).length + (if ([] : List Keyword).isEmpty then 0 else 1) < 30)) = true := by rfl)
    (hline : (apos.endLine == cpos.line) = true := by rfl) (hs : starEach (e :: es) X.env = (false, eval e X.env) :: starEach es X.env := by rfl) (hplain : (backTo cpos (starEach es X.env)).any (·.1) = false := by rfl) :
    PE X (.Call (.Attribute o "add" apos) (e :: es) [] cpos) (tSAddN X.prog X.w to t) := by
  refine ⟨fun pins s σ H Q I h => wpAny_Call_method_late hbase hfew hline rfl (thn (ho.run pins s σ H _ I h) fun v s1 ⟨x, H1, I1, r1, ⟨a, L, ex, hS⟩, q1⟩ => ?_)⟩
  subst ex
  cases r1
  obtain ⟨es', ep, tb, ⟨ob, h1, h2, h3⟩, _⟩ := (I1.hok a _ hS).1
  have nd : ∀ b, Value.ref a = .ref b → ∃ o', s1.heap.get? b = some o' ∧ o'.dict = none := fun b z => by cases z; exact ⟨ob, h1, h2.2.1⟩
  refine ⟨"set", "set.add", F.plainAttrs_set, F.slot_set_add, F.type_set_add, ⟨ob, h1, h2.1⟩, nd, ?_⟩
  have hA := ha.run cpos pins s1 σ H1 _ I1 q1
  rw [hs] at hA ⊢
  refine Calls.callWith_builtin (by show (false || (backTo cpos (starEach es X.env)).any (·.1)) = false; rw [hplain]; rfl) (Calls.evalArgs_plain (thn hA fun us s2 ⟨vs, H2, I2, r2, q2⟩ => ?_))
  exact mt_saddN hu pins s2 σ H2 (.ref a) vs (.ref a) us Q I2 rfl r2 q2
end
end CP
/-! Dicts whose keys are pairs of pairs of texts -/
namespace CP
open PySem PySem.Spec PyProof.Rows L2
/-! ### the content: keys, the places of the keys' tuples, values -/
abbrev Cn := List (PP × Addr × V)
def valN (xs : Cn) (k : PP) : Option V := (xs.find? fun x => decide (x.1 = k)).map (·.2.2)
def putN (xs : Cn) (k : PP) (b : Addr) (v : V) : Cn := if (valN xs k).isSome = true then xs.map (fun x => if x.1 = k then (x.1, x.2.1, v) else x) else xs ++ [(k, b, v)]
def LikeN (x : PP × Addr × V) (u : NestedKey × Addr × Value) : Prop := u.1 = nk x.1 ∧ u.2.1 = x.2.1 ∧ RelV x.2.2 u.2.2
theorem valN_cons (x : PP × Addr × V) (xs : Cn) (k : PP) : valN (x :: xs) k = if x.1 = k then some x.2.2 else valN xs k := by
  unfold valN
  by_cases c : x.1 = k <;> simp [List.find?_cons, c]
theorem atKey_cons (u : NestedKey × Addr × Value) (us : List (NestedKey × Addr × Value)) (k : NestedKey) : atKey (u :: us) k = if u.1 = k then some u.2 else atKey us k := by
  unfold atKey
  by_cases c : u.1 = k <;> simp [List.find?_cons, c]
theorem like_at {k : PP} : ∀ {xs : Cn} {us : List (NestedKey × Addr × Value)}, Paired LikeN xs us → (valN xs k = none ∧ atKey us (nk k) = none) ∨ ∃ v p, valN xs k = some v ∧ atKey us (nk k) = some p ∧ RelV v p.2
  | _, _, .nil => .inl ⟨rfl, rfl⟩
  | _, _, .cons (a := x) (b := u) h t => by
    rw [valN_cons, atKey_cons]
    by_cases c : x.1 = k
    · rw [if_pos c, if_pos (by rw [h.1, c])]
      exact .inr ⟨_, _, rfl, rfl, h.2.2⟩
    · rw [if_neg c, if_neg (fun z => c (nk_inj (h.1.symm.trans z)))]
      exact like_at t
theorem like_map {k : PP} {v : V} {u : Value} (rv : RelV v u) : ∀ {xs : Cn} {us : List (NestedKey × Addr × Value)}, Paired LikeN xs us → Paired LikeN (xs.map fun x => if x.1 = k then (x.1, x.2.1, v) else x) (us.map (putAt (nk k) u))
  | _, _, .nil => .nil
  | _, _, .cons (a := x) (b := y) h t => by
    refine .cons ?_ (like_map rv t)
    show LikeN (if x.1 = k then (x.1, x.2.1, v) else x) (if y.1 = nk k then (y.1, y.2.1, u) else y)
    by_cases c : x.1 = k
    · rw [if_pos c, if_pos (by rw [h.1, c])]; exact ⟨h.1, h.2.1, rv⟩
    · rw [if_neg c, if_neg (fun z => c (nk_inj (h.1.symm.trans z)))]; exact h
theorem like_put {k : PP} {b : Addr} {v : V} {u : Value} (rv : RelV v u) {xs : Cn} {us : List (NestedKey × Addr × Value)} (h : Paired LikeN xs us) : Paired LikeN (putN xs k b v) (storedH us (nk k) b u) := by
  unfold putN
  rcases like_at (k := k) h with ⟨e1, e2⟩ | ⟨v0, p, e1, e2, _⟩
  · rw [e1, storedH_new e2, if_neg (by decide)]
    exact h.snoc ⟨rfl, rfl, rv⟩
  · rw [e1, storedH_old e2, if_pos (by rfl)]
    exact like_map rv h
theorem valN_map (k j : PP) (v : V) : ∀ xs : Cn, valN (xs.map fun x => if x.1 = k then (x.1, x.2.1, v) else x) j = if j = k then (valN xs k).map (fun _ => v) else valN xs j
  | [] => by by_cases c : j = k <;> simp [valN, c]
  | x :: xs => by
    rw [List.map_cons, valN_cons, valN_map k j v xs, valN_cons, valN_cons]
    by_cases c : x.1 = k
    · by_cases d : j = k
      · subst d; simp [c]
      · have : ¬ k = j := fun z => d z.symm
        simp [c, d, this]
    · by_cases d : j = k
      · subst d; simp [c]
      · simp [c, d]
theorem valN_snoc (k j : PP) (b : Addr) (v : V) : ∀ xs : Cn, valN xs k = none → valN (xs ++ [(k, b, v)]) j = if j = k then some v else valN xs j
  | [], _ => by
    show valN [(k, b, v)] j = _
    rw [valN_cons]
    by_cases c : j = k
    · subst c; simp
    · have : ¬ k = j := fun z => c z.symm
      simp [this, c]
  | x :: xs, h => by
    rw [valN_cons] at h
    by_cases c : x.1 = k
    · rw [if_pos c] at h; cases h
    · rw [if_neg c] at h
      rw [List.cons_append, valN_cons, valN_snoc k j b v xs h, valN_cons]
      by_cases d : j = k
      · subst d; simp [c]
      · simp [d]
theorem valN_put (xs : Cn) (k j : PP) (b : Addr) (v : V) : valN (putN xs k b v) j = if j = k then some v else valN xs j := by
  unfold putN
  cases e : valN xs k with
  | none => rw [if_neg (by decide)]; exact valN_snoc k j b v xs e
  | some v0 => rw [if_pos (by rfl), valN_map, e]; rfl
theorem putN_len (xs : Cn) (k : PP) (b : Addr) (v : V) : (putN xs k b v).length ≤ xs.length + 1 := by
  unfold putN; split
  · rw [List.length_map]; omega
  · rw [List.length_append]; simp
theorem putN_old {xs : Cn} {k : PP} (h : (valN xs k).isSome = true) (b : Addr) (v : V) : (putN xs k b v).length = xs.length := by
  unfold putN; rw [if_pos h, List.length_map]
theorem putN_mem {xs : Cn} {k : PP} {b : Addr} {v : V} {x : PP × Addr × V} (h : x ∈ putN xs k b v) : (x.1 = k ∧ x.2.1 = b) ∨ ∃ y ∈ xs, x.1 = y.1 ∧ x.2.1 = y.2.1 := by
  unfold putN at h; split at h
  · obtain ⟨y, hy, rfl⟩ := List.mem_map.mp h
    refine .inr ⟨y, hy, ?_⟩
    split <;> exact ⟨rfl, rfl⟩
  · rcases List.mem_append.mp h with h | h
    · exact .inr ⟨x, h, rfl, rfl⟩
    · rw [List.mem_singleton.mp h]; exact .inl ⟨rfl, rfl⟩
/-- the dict at a, but for the keys' own tuples -/
def DctIn (P : Program) (w : World) (a : Addr) (xs : Cn) (h : Heap) : Prop :=
  ∃ o es ep us, h.get? a = some o ∧ o.ExactDict ∧ o.data = .dict es ep ∧ es.toList = us.map (entryOfKey (nestedKind P w)) ∧ (us.map (·.1)).Nodup ∧ Paired LikeN xs us
def DctN (P : Program) (w : World) (a : Addr) (xs : Cn) : HO := .ext (DctIn P w a xs)
theorem dctN_ok {P : Program} {w : World} {H : Hp} {h : Heap} {a : Addr} {xs : Cn} (R : DctIn P w a xs h) : ObjOk P w H h a (DctN P w a xs) := by
  have ⟨o, es, ep, us, ho, _⟩ := R
  exact ⟨R, ⟨o, ho⟩, fun h1 h2 ⟨o', es', ep', us', ho', r⟩ k => ⟨o', es', ep', us', k o' ho', r⟩⟩
theorem dctN_new (P : Program) (w : World) (h : Heap) : DctIn P w h.objs.size [] (h.push { cls := .type "dict", data := .dict #[] }) :=
  ⟨_, #[], 0, [], Heap.get?_push_size _ rfl, ⟨rfl, rfl, rfl⟩, rfl, rfl, List.nodup_nil, .nil⟩
/-- at d a dict that answers g, of at most n keys -/
def DN (P : Program) (w : World) (H : Hp) (d : Addr) (g : PP → Option V) (n : Nat) : Prop := ∃ xs, H d = some (DctN P w d xs) ∧ (∀ x ∈ xs, PpH H x.2.1 x.1) ∧ (∀ k, valN xs k = g k) ∧ xs.length ≤ n
theorem DN.same {P : Program} {w : World} {H H' : Hp} {d : Addr} {g : PP → Option V} {n : Nat} (h : DN P w H d g n) (s : Same H H') : DN P w H' d g n := by
  obtain ⟨xs, a, b, c, e⟩ := h
  exact ⟨xs, s _ _ a, fun x hx => (b x hx).same s, c, e⟩
theorem DN.new {P : Program} {w : World} {H : Hp} {d : Addr} : DN P w (L2.upd H d (DctN P w d [])) d (fun _ => none) 0 := ⟨[], upd_same, (fun _ z => nomatch z), fun _ => rfl, Nat.le_refl _⟩
theorem no_tup {f : Heap → Prop} : ∀ xs : List V, (HO.ext f) ≠ .tup xs := fun xs z => by cases z
theorem PpH.new {H : Hp} {d b : Addr} {k : PP} {o : HO} (h : PpH H b k) (hd : H d = none) : PpH (L2.upd H d o) b k := h.same fun c u e => by rw [upd_ne (ne_of_none e hd)]; exact e
section
variable {X : Cx} {pins : List (Addr × Obj)} {σ : L2.St} {H : Hp} {s : Shared}
theorem dctN_get {d : Addr} {xs : Cn} (I : L2.Inv X pins σ H s) (hd : H d = some (DctN X.prog X.w d xs)) (hk : ∀ x ∈ xs, PpH H x.2.1 x.1) : ∃ us, s.heap.DictOfH (nestedKind X.prog X.w) d us ∧ Paired LikeN xs us ∧ us.length = xs.length := by
  obtain ⟨o, es, ep, us, h1, h2, h3, h4, h5, h6⟩ := (I.hok d _ hd).1
  have all : ∀ {xs : Cn} {us : List (NestedKey × Addr × Value)}, Paired LikeN xs us → (∀ x ∈ xs, PpH H x.2.1 x.1) → ∀ u ∈ us, (nestedKind X.prog X.w).is s.heap u.1 u.2.1 := by
    intro xs us p
    induction p with
    | nil => intro _ u hu; cases hu
    | @cons x u xs us l _ ih =>
      intro h y hy
      rcases List.mem_cons.mp hy with rfl | hy
      · have q := pp_is I (h x List.mem_cons_self)
        rw [l.1, l.2.1]
        exact ⟨q, by rw [nk_depth]; omega⟩
      · exact ih (fun z hz => h z (List.mem_cons_of_mem _ hz)) y hy
  exact ⟨us, ⟨o, es, ep, h1, h2, h3, h4, all h6 hk, h5⟩, h6, (Paired.length h6).symm⟩
/-- d[k] -/
def rGetN (P : Program) (w : World) : R2 := fun x y H Q => ∃ (d b : Addr) (k : PP) (g : PP → Option V) (n : Nat) (v : V), x = .ref d ∧ y = .ref b ∧ DN P w H d g n ∧ PpH H b k ∧ g k = some v ∧ Q v H
def tGetN (P : Program) (w : World) (td ty : TE) : TE := fun σ H Q => td σ H fun x H1 => ty σ H1 fun y H2 => rGetN P w x y H2 Q
theorem pe_getN {o i : Expr} {td ty : TE} {pos : Pos} (hu : X.A.units + 64 < cLine) (ho : PE X o td) (hi : PE X i ty) (hs : NoSl i) : PE X (.Subscript o i pos) (tGetN X.prog X.w td ty) := by
  refine ⟨fun pins s σ H Q I h => ?_⟩
  refine subD_of PySem.F.slot_dict_getitem.lookup hs (thn (ho.run pins s σ H _ I h) fun u s1 ⟨x, H1, I1, rx, q1⟩ => thn (hi.run pins s1 σ H1 _ I1 q1) fun iv s2 ⟨y, H2, I2, ry, d, b, k, g, n, v, ex, ey, ⟨xs, h1, h2, h3, h4⟩, hb, hg, q⟩ => ?_)
  subst ex ey
  cases rx
  cases ry
  obtain ⟨us, D, l, _⟩ := dctN_get I2 h1 h2
  refine ⟨D.typeIs, ?_⟩
  rcases like_at (k := k) l with ⟨e1, _⟩ | ⟨v0, p, e1, e2, rv⟩
  · rw [h3 k, hg] at e1; cases e1
  · rw [h3 k, hg] at e1
    obtain rfl : v = v0 := Option.some.inj e1
    refine wpAny_getItem_heap (knd := nestedKind X.prog X.w) (by show _ + 8 < cLine; simp; omega) ⟨pp_is I2 hb, by rw [nk_depth]; omega⟩ D e2 ?_
    exact ⟨v, H2, I2.tok _, rv, q⟩
/-- d[k] = v -/
def rPutN (P : Program) (w : World) : TSet := fun o i v H Q => ∃ (d b : Addr) (k : PP) (g : PP → Option V) (n : Nat), o = .ref d ∧ i = .ref b ∧ DN P w H d g n ∧ PpH H b k ∧ n ≤ 1000 ∧
  ∀ u, DN P w (L2.upd H d u) d (fun j => if j = k then some v else g j) (if (g k).isSome = true then n else n + 1) → (∀ c x, PpH H c x → PpH (L2.upd H d u) c x) → Q (L2.upd H d u)
theorem DN.put {P : Program} {w : World} {d b : Addr} {k : PP} {g : PP → Option V} {n : Nat} {v : V} {xs : Cn} (h1 : H d = some (DctN P w d xs)) (h2 : ∀ x ∈ xs, PpH H x.2.1 x.1) (h3 : ∀ k, valN xs k = g k) (h4 : xs.length ≤ n) (hb : PpH H b k) :
    DN P w (L2.upd H d (DctN P w d (putN xs k b v))) d (fun j => if j = k then some v else g j) (if (g k).isSome = true then n else n + 1) := by
  refine ⟨_, upd_same, fun x hx => ?_, fun j => by rw [valN_put, h3], ?_⟩
  · rcases putN_mem hx with ⟨e1, e2⟩ | ⟨y, hy, e1, e2⟩
    · rw [e1, e2]; exact hb.upd h1 no_tup
    · rw [e1, e2]; exact (h2 y hy).upd h1 no_tup
  · by_cases c : (g k).isSome = true
    · rw [if_pos c, putN_old (by rw [h3]; exact c)]; exact h4
    · rw [if_neg c]; exact Nat.le_trans (putN_len _ _ _ _) (by omega)
theorem set_dictN (hu : X.A.units + 64 < cLine) : PSet X (rPutN X.prog X.w) := by
  intro pins s σ H o i v ov iv u Q I ro ri rv h
  obtain ⟨d, b, k, g, n, rfl, rfl, ⟨xs, h1, h2, h3, h4⟩, hb, few, q⟩ := h
  cases ro
  cases ri
  obtain ⟨us, D, l, le⟩ := dctN_get I h1 h2
  refine wpAny_setItem_heap (knd := nestedKind X.prog X.w) (hsz := by rw [le, sizeLine_eq]; omega) (by show _ + 8 < cLine; simp; omega) ⟨pp_is I hb, by rw [nk_depth]; omega⟩ D fun h' D' sb => ?_
  obtain ⟨o', es', ep', g1, g2, g3, g4, _, g6⟩ := D'
  have R : DctIn X.prog X.w d (putN xs k b v) h' := ⟨o', es', ep', _, g1, g2, g3, g4, g6, like_put rv l⟩
  exact ⟨_, I.write (e := d) (t' := s.toks + (nestedKind X.prog X.w).draws (nk k)) (by rw [h1]; trivial) (.inl rfl) (fun c u hc hu => (sb.2 c hc).trans hu) ⟨o', g1⟩ (dctN_ok R), q _ (DN.put h1 h2 h3 h4 hb) fun c x p => p.upd h1 no_tup⟩
end
end CP
/-! Dict comprehensions whose keys are pairs of pairs of texts -/
namespace CP
open PySem PySem.Spec PyProof.Rows L2
/-- D[k] = v by the comprehension -/
def sPutN (P : Program) (w : World) (D : Addr) (y z : V) (H : Hp) (Nx : Hp → Prop) : Prop := ∃ (b : Addr) (k : PP) (g : PP → Option V) (n : Nat), y = .ref b ∧ DN P w H D g n ∧ PpH H b k ∧ n ≤ 1000 ∧
  ∀ u, DN P w (L2.upd H D u) D (fun j => if j = k then some z else g j) (if (g k).isSome = true then n else n + 1) → (∀ c x, PpH H c x → PpH (L2.upd H D u) c x) → Nx (L2.upd H D u)
def tDcN (P : Program) (w : World) (wi : TI) (g : TG) (tt : TT) (tk tv : TE) (vs : List Nat) : TE := fun σ H Q => wi σ H fun J H1 => ∀ D, H1 D = none → ∃ W : Nat → Nat → Hp → Prop, (∃ m, W 0 m (L2.upd H1 D (DctN P w D []))) ∧ ∀ i m H, W i m H →
  (J.stop i H ∧ Q (.ref D) H) ∨ (J.go i H ∧ ∃ Nx : Hp → Prop, (∀ H', Nx H' → ∃ m', m' < m ∧ W (i + 1) m' H') ∧ ∀ x H', J.yld i H x H' → g x (wipe σ vs) H' fun σ2 H2 => wipe σ2 vs = wipe σ vs ∧ tt σ2 H2 fun b H3 =>
    if b = true then tk σ2 H3 fun y H4 => tv σ2 H4 fun z H5 => sPutN P w D y z H5 Nx else Nx H3)
section
variable {X : Cx}
theorem dictSet_N {pins : List (Addr × Obj)} {σ : L2.St} {H : Hp} {s : Shared} {E : Value → Shared → Prop} {D : Addr} {y z : V} {uy uz : Value} {Nx : Hp → Prop} {Q : Unit → Shared → Prop} (room : X.A.units + 64 < cLine) (V0 : L2.Inv X pins σ H s) (ry : RelV y uy) (rz : RelV z uz) (h : sPutN X.prog X.w D y z H Nx)
    (fin : ∀ s' H', L2.Inv X pins σ H' s' → Nx H' → Q () s') : wpAny (model X.prog X.w) X.A (dictSet D uy uz) Q E s := by
  obtain ⟨b, k, g, n, rfl, ⟨xs, h1, h2, h3, h4⟩, hb, few, q⟩ := h
  cases ry
  obtain ⟨us, M, l, le⟩ := dctN_get V0 h1 h2
  refine wpAny_dictSet_heap (knd := nestedKind X.prog X.w) (hsz := by rw [le, sizeLine_eq]; omega) (by show _ + 8 < cLine; omega) ⟨pp_is V0 hb, by rw [nk_depth]; omega⟩ M fun h' M' sb => ?_
  obtain ⟨o', es', ep', g1, g2, g3, g4, _, g6⟩ := M'
  have R : DctIn X.prog X.w D (putN xs k b z) h' := ⟨o', es', ep', _, g1, g2, g3, g4, g6, like_put rz l⟩
  refine fin _ _ (V0.write (e := D) (t' := s.toks + (nestedKind X.prog X.w).draws (nk k)) (by rw [h1]; trivial) (.inl rfl) (fun c u hc hu => (sb.2 c hc).trans hu) ⟨o', g1⟩ (dctN_ok R)) ?_
  exact q _ (DN.put h1 h2 h3 h4 hb) fun c x p => p.upd h1 no_tup
theorem pe_dcN {kx vx tg iter : Expr} {ifs : List Expr} {scope : Scope} {own : List (Str × Nat)} {pos : Pos} {wi : TI} {g : TG} {tt : TT} {tk tv : TE} (calm : X.calm = true) (once : X.N.Nodup) (room : X.A.units + 64 < cLine) (ri : PI X tg iter wi) (blk : BlkOk X.N X.env.scope scope own)
    (rg : ∀ s H C cl fp, PG (X.blk s H scope (compEnvC scope cl C X.env) fp) tg g) (rt : ∀ s H C cl fp, PTs (X.blk s H scope (compEnvC scope cl C X.env) fp) ifs tt)
    (rk : ∀ s H C cl fp, PE (X.blk s H scope (compEnvC scope cl C X.env) fp) kx tk) (rv : ∀ s H C cl fp, PE (X.blk s H scope (compEnvC scope cl C X.env) fp) vx tv) (plain : ∀ x, foldedSetIterable iter X.env x = pure x := by intro _; rfl) :
    PE X (.DictComp kx vx [⟨tg, iter, ifs, 0⟩] scope pos) (tDcN X.prog X.w wi g tt tk tv (own.map (·.2))) := by
  refine ⟨fun pins s σ H Q V0 want => ?_⟩
  rw [arm_eval_DictComp]
  have cells : ∀ y ∈ scope.names, y.2 = .free → ∃ c, X.env.cells.lookup y.1 = some c := fun y hy e => (blk.free y hy e).elim (fun q => V0.ok.has _ (.inl q)) fun q => V0.ok.has _ (.inr q)
  refine wpAny_comprehension_free rfl plain (closure_ok cells) blk.kind (fun y hy e => by rw [blk.uniq y hy, e]) (thn (ri.run pins s σ H _ V0 want) fun xv s1 hx => thn hx fun itv s2 ⟨it, fp, tn, J, H2, e, V2, T, w2, p2, q⟩ => ?_)
  subst e
  refine wpAny_newObj_type (newEnv_comp ?_)
  have big := V2.big
  -- the new dict at D, and the block's own names behind it
  generalize eD : s2.heap.objs.size = D
  have nD : H2 D = none := V2.hok.fresh (Nat.le_of_eq eD)
  obtain ⟨W, ⟨m0, w0⟩, turn⟩ := q D nD
  generalize e3 : ({ s2 with heap := s2.heap.push { cls := .type "dict", data := .dict #[] } } : Shared) = s3
  have hp3 : s3.heap = s2.heap.push { cls := .type "dict", data := .dict #[] } := by rw [← e3]
  have V3 : L2.Inv X pins σ (L2.upd H2 D (DctN X.prog X.w D [])) s3 := by
    subst e3
    refine V2.laid (t' := s2.toks) (fun b o e => Heap.get?_push_of_some _ e) (Nat.le_of_eq eD) ?_
    subst eD
    exact dctN_ok (dctN_new X.prog X.w s2.heap)
  have old : ∀ b ∈ fp, b < s2.heap.objs.size := fun b hb => let ⟨_, e, _⟩ := T.obj _ _ w2 b hb; Heap.lt_size e
  have p3 : ∀ b ∈ fp, FpOk X pins (L2.upd H2 D (DctN X.prog X.w D [])) b ∧ b < s3.heap.objs.size := fun b hb => by
    have lt := old b hb
    refine ⟨⟨by rw [upd_ne (by rw [← eD]; exact Nat.ne_of_lt lt)]; exact (p2 b hb).1, (p2 b hb).2⟩, ?_⟩
    rw [hp3, Heap.size_push]; exact Nat.lt_succ_of_lt lt
  have w3 : tn 0 s3.heap := T.keep _ _ _ w2 fun b _ o e => hp3 ▸ Heap.get?_push_of_some _ e
  have V4 := block_start V3 blk once p3
  have free3 : ∀ b ∈ fp, (L2.upd H2 D (DctN X.prog X.w D [])) b = none := fun b hb => (p3 b hb).1.1
  generalize hcl : cellsFrom (s3.heap.objs.size + 1) scope.names (cloFrom X.env.cells scope.names []) = cl at V4
  have rg := rg s3 (L2.upd H2 D (DctN X.prog X.w D [])) s3.heap.objs.size cl fp
  have rt := rt s3 (L2.upd H2 D (DctN X.prog X.w D [])) s3.heap.objs.size cl fp
  have rk := rk s3 (L2.upd H2 D (DctN X.prog X.w D [])) s3.heap.objs.size cl fp
  have rv := rv s3 (L2.upd H2 D (DctN X.prog X.w D [])) s3.heap.objs.size cl fp
  show codeAny _ _ (.compStart _ 0 (.ref it) (.ref D) (compEnvC scope cl s3.heap.objs.size X.env)) _ { s3 with heap := pushCells (s3.heap.push { cls := .type "dict", data := .dict #[] }) scope.names }
  generalize hce : compEnvC scope cl s3.heap.objs.size X.env = ce at V4 rg rt rk rv ⊢
  have loc : ce.locals = s3.heap.objs.size := by subst hce; rfl
  generalize L2.upd H2 D (DctN X.prog X.w D []) = H3 at V3 V4 rg rt rk rv w0 free3 p3
  generalize e4 : ({ s3 with heap := pushCells (s3.heap.push { cls := .type "dict", data := .dict #[] }) scope.names } : Shared) = s4 at V4 ⊢
  have w4 : tn 0 s4.heap := T.keep _ _ _ w3 fun b _ o e => by subst e4; exact pushCells_keeps _ _ _ _ (Heap.get?_push_of_some _ e)
  have aside : ∀ {σ' : L2.St} {H' : Hp} {s' : Shared}, L2.Inv (X.blk s3 H3 scope ce fp) [] σ' H' s' → (∀ b ∈ fp, H' b = none) → ∀ b ∈ fp, FpOk (X.blk s3 H3 scope ce fp) [] H' b := fun V' nn b hb =>
    ⟨nn b hb, (V'.ok.exf b hb).1, V'.ok.exfs b hb, .inl hb, fun x c e => (V'.ok.exf b hb).2 x c e, fun p hp => absurd hp (by simp)⟩
  have loop : codeAny (model X.prog X.w) X.A (.compLoop (.DictComp kx vx [⟨tg, iter, ifs, 0⟩] scope pos) 0 (.ref it) (.ref D) ce) (compPost (model X.prog X.w) X.A X.xe none (EP X pins σ Q) (.ref D) s3.heap.objs.size) s4 := by
    refine compLoop_anyD (fun n s' => ∃ i H', L2.Inv (X.blk s3 H3 scope ce fp) [] (wipe σ (own.map (·.2))) H' s' ∧ tn i s'.heap ∧ (∀ b ∈ fp, H' b = none) ∧ W i n H') ?_ m0 ⟨0, H3, V4, w4, free3, w0⟩
    rintro n s5 ⟨i, H5, V5, w5, n5, u5⟩
    rcases turn i n H5 u5 with ⟨halt, got⟩ | ⟨go, Nx, down, step⟩
    · refine thnF (T.done (X.blk s3 H3 scope ce fp) rfl rfl rfl calm i [] s5 _ H5 (fun _ _ => False) V5 (aside V5 n5) w5 halt) fun r s6 ⟨er, V6⟩ => ?_
      subst er
      -- back among the def's own names
      have V7 : L2.Inv X pins σ H5 s6 := V3.call' (ch := fp) V6.os V6.base V6.hok V6.bare fun b hb => let z := (p3 b hb).1.2; ⟨z.2.2.1, z.1, z.2.2.2.1, z.2.2.2.2⟩
      have nC : H5 s3.heap.objs.size = none := loc ▸ V6.free
      obtain ⟨m, ns, _⟩ := V6.loc
      have ns : s6.heap.Ns s3.heap.objs.size m := loc ▸ ns
      obtain ⟨f0, f1, f2, f3, f4, f5⟩ := V3.fpOk (Nat.le_refl _) nC
      exact ⟨m, ns, fun h2 sb => ⟨.ref D, H5, V7.turned (t' := s6.toks) (fun b o hb e => (sb.2 b hb).trans e) f0 f1 f3 f4 f5, rfl, got⟩⟩
    · refine thnF (T.item (X.blk s3 H3 scope ce fp) rfl rfl rfl calm i [] s5 _ H5 (fun _ _ => False) V5 (aside V5 n5) w5 go) fun r s6 ⟨u, er, h6⟩ => ?_
      subst er
      refine thnF h6 fun _ s7 ⟨x, H7, V7, r7, y7, w7, n7⟩ => ?_
      have P7 := V7.pinned (aside V7 n7) (T.obj _ _ w7)
      refine thnF (rg.run _ s7 _ H7 x u _ P7 r7 (step x H7 y7)) fun _ s8 ⟨σ8, H8, V8, same8, q8⟩ => ?_
      refine thnF (rt.run _ s8 σ8 H8 _ V8 q8) fun b s9 ⟨H9, V9, q9⟩ => ?_
      have next : ∀ {s' : Shared} {H' : Hp}, L2.Inv (X.blk s3 H3 scope ce fp) ([] ++ pinsAt fp s7.heap) σ8 H' s' → Nx H' → ∃ m, m < n ∧ ∃ i H', L2.Inv (X.blk s3 H3 scope ce fp) [] (wipe σ (own.map (·.2))) H' s' ∧ tn i s'.heap ∧ (∀ b ∈ fp, H' b = none) ∧ W i m H' := fun {s' H'} V' nx => by
        obtain ⟨m', lt, u'⟩ := down H' nx
        have fixed : ∀ b ∈ fp, ∀ o, s7.heap.get? b = some o → s'.heap.get? b = some o ∧ H' b = none := fun b hb o e =>
          let z := V'.pin (b, o) (List.mem_append_right _ (List.mem_append_right _ (mem_pinsAt hb e))); ⟨z.1, z.2.1⟩
        refine ⟨m', lt, i + 1, H', (V'.unpinned (pins := [])).weak (by rw [← same8, wipe_length]) (fun j v e => (wipe_some (same8 ▸ e)).1), T.keep _ _ _ w7 fun b hb o e => (fixed b hb o e).1, fun b hb => ?_, u'⟩
        obtain ⟨o, e, _⟩ := T.obj _ _ w7 b hb
        exact (fixed b hb o e).2
      cases b with
      | false =>
        simp only [Bool.false_eq_true, if_false] at q9 ⊢
        exact next V9 q9
      | true =>
        simp only [if_true] at q9 ⊢
        refine thnF (rk.run _ s9 σ8 H9 _ V9 q9) fun z1 s10 ⟨yk, H10, V10, r10, q10⟩ => thnF (rv.run _ s10 σ8 H10 _ V10 q10) fun z2 s11 ⟨yv, H11, V11, r11, q11⟩ => ?_
        exact dictSet_N (X := X.blk s3 H3 scope ce fp) room V11 r10 r11 q11 fun s12 H12 V12 nx => next V12 nx
  exact codeAny_compStart_dict loop (T.self X.A 0 _ _ _ w4 loop)
/-- over any walk -/
theorem dcN_it {P : Program} {w : World} {J : It} {n : Nat} {G : Hp → Prop} {Y : Nat → Hp → V → Hp → Prop} (wk : Walk J n G Y) {g : TG} {tt : TT} {tk tv : TE} {vs : List Nat} {σ : L2.St} {H1 : Hp} {D : Addr} {Qd : Hp → Prop} (Pv : Nat → Hp → Prop) (h0 : Pv 0 (L2.upd H1 D (DctN P w D []))) (hG : ∀ i H, i ≤ n → Pv i H → G H)
    (hs : ∀ i x H H', i < n → Pv i H → Y i H x H' → g x (wipe σ vs) H' fun σ2 H2 => wipe σ2 vs = wipe σ vs ∧ tt σ2 H2 fun b H3 => if b = true then tk σ2 H3 fun y H4 => tv σ2 H4 fun z H5 => sPutN P w D y z H5 (Pv (i + 1)) else Pv (i + 1) H3) (hd : ∀ H, Pv n H → Qd H) :
    ∃ W : Nat → Nat → Hp → Prop, (∃ m, W 0 m (L2.upd H1 D (DctN P w D []))) ∧ ∀ i m H, W i m H →
      (J.stop i H ∧ Qd H) ∨ (J.go i H ∧ ∃ Nx : Hp → Prop, (∀ H', Nx H' → ∃ m', m' < m ∧ W (i + 1) m' H') ∧ ∀ x H', J.yld i H x H' → g x (wipe σ vs) H' fun σ2 H2 => wipe σ2 vs = wipe σ vs ∧ tt σ2 H2 fun b H3 =>
        if b = true then tk σ2 H3 fun y H4 => tv σ2 H4 fun z H5 => sPutN P w D y z H5 Nx else Nx H3) := by
  refine ⟨fun i m H => m = n - i ∧ i ≤ n ∧ Pv i H, ⟨n, by simp, Nat.zero_le _, h0⟩, fun i m H ⟨em, hi, p⟩ => ?_⟩
  by_cases lt : i < n
  · exact .inr ⟨wk.goes i H lt (hG i H hi p), Pv (i + 1), fun H' p' => ⟨n - (i + 1), by omega, rfl, lt, p'⟩, fun x H' y => hs i x H H' lt p (wk.yields i H x H' lt (hG i H hi p) y)⟩
  · obtain rfl : i = n := by omega
    exact .inl ⟨wk.stops H (hG _ H hi p), hd H p⟩
end
end CP
/-! the rules of CpPairK, CpDict, CpDictC with the program and the world named outright -/
namespace CP
open PySem PySem.Spec PyProof.Rows L2
section
variable {X : Cx} (P : Program) (w : World)
theorem cr_set0P (h1 : X.prog = P) (h2 : X.w = w) : CallR X (.type "set") (rSet0N P w) := by subst h1; subst h2; exact cr_set0N
theorem or_sinP (h1 : X.prog = P) (h2 : X.w = w) (hu : X.A.units + 64 < cLine) : OpR X (compareOp .In) (rSInN P w) := by subst h1; subst h2; exact or_sinN hu
theorem pe_saddP (h1 : X.prog = P) (h2 : X.w = w) {o e : Expr} {es : List Expr} {to : TE} {t : TA} {apos cpos : Pos} (hu : X.A.units + 64 < cLine) (ho : PE X o to) (ha : PA X (e :: es) t) (hbase : attributeBase o "add" X.env (eval o X.env) = eval o X.env := by rfl)
    (hfew : ((backTo cpos (starEach (e :: es) X.env)).all (fun x => !x.1) && (backToKw cpos (keywordEach [] X.env)).all (fun x => x.1.isSome) && decide ((e :: es).length + ([] : List Keyword).length + (if ([] : List Keyword).isEmpty then 0 else 1) < 30)) = true := by rfl)
    (hl : (apos.endLine == cpos.line) = true := by rfl) (hs : starEach (e :: es) X.env = (false, eval e X.env) :: starEach es X.env := by rfl) (hp : (backTo cpos (starEach es X.env)).any (·.1) = false := by rfl) :
    PE X (.Call (.Attribute o "add" apos) (e :: es) [] cpos) (tSAddN P w to t) := by subst h1; subst h2; exact pe_saddNN hu ho ha hbase hfew hl hs hp
theorem pe_getP (h1 : X.prog = P) (h2 : X.w = w) {o i : Expr} {td ty : TE} {pos : Pos} (hu : X.A.units + 64 < cLine) (ho : PE X o td) (hi : PE X i ty) (hs : NoSl i) : PE X (.Subscript o i pos) (tGetN P w td ty) := by subst h1; subst h2; exact pe_getN hu ho hi hs
theorem set_dictP (h1 : X.prog = P) (h2 : X.w = w) (hu : X.A.units + 64 < cLine) : PSet X (rPutN P w) := by subst h1; subst h2; exact set_dictN hu
theorem pe_dcP (h1 : X.prog = P) (h2 : X.w = w) {kx vx tg iter : Expr} {ifs : List Expr} {scope : Scope} {own : List (Str × Nat)} {pos : Pos} {wi : TI} {g : TG} {tt : TT} {tk tv : TE} (calm : X.calm = true) (once : X.N.Nodup) (room : X.A.units + 64 < cLine) (ri : PI X tg iter wi) (blk : BlkOk X.N X.env.scope scope own)
    (rg : ∀ s H C cl fp, PG (X.blk s H scope (compEnvC scope cl C X.env) fp) tg g) (rt : ∀ s H C cl fp, PTs (X.blk s H scope (compEnvC scope cl C X.env) fp) ifs tt)
    (rk : ∀ s H C cl fp, PE (X.blk s H scope (compEnvC scope cl C X.env) fp) kx tk) (rv : ∀ s H C cl fp, PE (X.blk s H scope (compEnvC scope cl C X.env) fp) vx tv) (plain : ∀ x, foldedSetIterable iter X.env x = pure x := by intro _; rfl) :
    PE X (.DictComp kx vx [⟨tg, iter, ifs, 0⟩] scope pos) (tDcN P w wi g tt tk tv (own.map (·.2))) := by subst h1; subst h2; exact pe_dcN calm once room ri blk rg rt rk rv plain
end
end CP
/-! Defs that show data (repr): the promise holds where no repr is running around the call. -/
namespace CP
open PySem PySem.Spec PyProof.Rows L2
structure FnG (P : Program) (w : World) (K : PySem.W.Frag) (mg : Str → Option Value) (base : Heap) (k : Nat) (f : Addr) (fd : FuncData) (ps : List Str) (sp : Sp) : Prop where
  len : ∀ vs H Q E, sp vs H Q E → vs.length = ps.length
  run : ∀ (A : Around) (outer : List Env) (s : Shared) (H : Hp) (args : Args) (us : List Value) (vs : List V) (Q : VK) (E : XK), Room k A → A.guards = some [] → Env0 P w K mg base A outer s H → BindsTo s fd args (ps.zip us) → Vals vs us → sp vs H Q E →
    codeAny (model P w) A (.call (.ref f) args) (CR CX0 outer P w H s Q E) s
section
variable {P : Program} {w : World} {K : PySem.W.Frag} {mg : Str → Option Value} {base : Heap}
theorem okG {x qual : Str} {st : Stmt} {f : Addr} {fd : FuncData} {N ps : List Str} {k : Nat} {sp : Sp} (F : Fun K x qual st f fd) (S : FnScope N ps (defScope st)) (len : ∀ vs H Q E, sp vs H Q E → vs.length = ps.length)
    (body : ∀ (cdv : Value) (A : Around) (outer : List Env) (s : Shared) (H : Hp) (vs : List V) (Q : VK) (E : XK), Room k (A.deeper (envOfC qual (defScope st) s.heap.objs.size f cdv)) → (A.deeper (envOfC qual (defScope st) s.heap.objs.size f cdv)).guards = some [] → sp vs H Q E →
      ∃ t, PSs (cxOf CX0 P w K mg base N qual (defScope st) f cdv A outer s H E).nox (defBody st) t ∧ t { nx := fun _ H' => Q .non H', rt := Q } (start N vs) H) : FnG P w K mg base (k + 1) f fd ps sp := by
  obtain ⟨oc, od, kV, doc, pm, an, cdv, ct, osl, rfl, lk, hcd⟩ := F.ex
  refine ⟨len, fun A outer s H args us vs Q E room gds env0 hb vals hsp => ?_⟩
  have up : ∀ b o, base.get? b = some o → s.heap.get? b = some o := fun b o e => (env0.bs b o e).1
  have KIn : K.In s.heap := env0.mod.kin.keeps up
  have kinds : ∀ y ∈ ps.zip us, (defScope st).names.lookup y.1 = some .local ∨ ((defScope st).names.lookup y.1 = some .cell ∧ ((cellsFrom (s.heap.objs.size + 1) (defScope st).names []).lookup y.1).isSome = true) := fun ⟨n, v⟩ hy =>
    (S.par n (List.of_mem_zip hy).1).elim .inl fun q => .inr ⟨q, PySem.W.cellsFrom_some _ _ _ (.inl q)⟩
  refine codeAny_call_function room.depth (KIn _ _ lk) rfl S.co S.gen rfl (PySem.W.codeRec_of KIn hcd) (hb _ _ _ _ (wpAny_newFunctionEnv_cells S.kind kinds fun env he s1 x => ?_))
  subst he
  refine ⟨(env0.mod.nolimit.keeps up).keeps x.toInCall.keep, codeAny_func ?_⟩
  obtain ⟨t, ht, hq⟩ := body cdv A outer s H vs Q E (room.deeper _) gds hsp
  have I : L2.Inv (cxOf CX0 P w K mg base N qual (defScope st) f cdv A outer s H E) [] (start N vs) H s1 := inv_start S room.hd env0 (len _ _ _ _ hsp) vals x
  refine wpAny_mono (ht.nox.run [] s1 (start N vs) H _ I hq) (fun fl s' hs => ?_) fun e s' hs => hs
  have done : ∀ {σ' : L2.St} {H' : Hp} {v : V} {u : Value}, L2.Inv (cxOf CX0 P w K mg base N qual (defScope st) f cdv A outer s H E) [] σ' H' s' → RelV v u → Q v H' → CE outer P w H s Q u s' := fun J rv q => ⟨_, _, J.os, J.bare, J.base, J.hok, rv, q⟩
  match fl, hs with
  | .ret u, ⟨v, σ', H', J, rv, q⟩ => exact done J rv q
  | .next, ⟨σ', H', J, q⟩ => exact done (v := V.non) (u := Value.none) J rfl q
  | .brk, ⟨_, _, _, q⟩ => exact q.elim
  | .cont, ⟨_, _, _, q⟩ => exact q.elim
end
section
variable {X : Cx} {x : Str} {p pos : Pos} {e : Expr} {es : List Expr} {t : TA} {k : Nat} {f : Addr} {fd : FuncData} {ps : List Str} {sp : Sp}
theorem pe_callG (F : FnG X.prog X.w X.K X.mg X.base k f fd ps sp) (hr : Room k X.A) (gds : X.A.guards = some []) (hg : Gl X x) (hm : X.mg x = some (.ref f)) (hk : PySem.W.keepIn X.K (.ref f) = true) (hb : Binds X.K fd ps []) (ha : PA X (e :: es) t)
    (hdb : (x == ("__debug__" : Str)) = false := by decide) (he : starEach (e :: es) X.env = (false, eval e X.env) :: starEach es X.env := by rfl) (hpl : (backTo pos (starEach es X.env)).any (·.1) = false := by rfl) : PE X (.Call (.Name x p) (e :: es) [] pos) (tCall sp [] E0 t) := by
  refine ⟨fun pins s σ H Q I h => wpAny_Call_Name_kw (ld_glob I hg hm ?_ hdb)⟩
  refine PySem.W.callWith_K (h₀ := X.base) I.ok.mod.kin hk (thn (ha.run pos pins s σ H _ I h) fun us s1 ⟨vs, H1, I1, r, q⟩ => ⟨I1.kIn, ?_⟩) he hpl
  have r2 : Vals (vs ++ []) (us ++ []) := r.append .nil
  have hl : (us ++ []).length = ps.length := by rw [← r2.length]; exact F.len _ _ _ _ q
  refine wpAny_call (codeAny_mono (F.run X.A X.stack s1 H1 ⟨us, []⟩ (us ++ []) (vs ++ []) Q E0 hr gds I1.env0 (hb s1 us I1.kIn hl) r2 q) fun res s' hq => ?_)
  match res, hq with
  | .error err, hq => exact (hq : False).elim
  | .ok (.ret u), hq => exact I1.after hq
  | .ok .next, hq => exact False.elim hq
  | .ok .brk, hq => exact False.elim hq
  | .ok .cont, hq => exact False.elim hq
/-- repr(x) of data that can be shown -/
def rReprD (K : PySem.W.Frag) : List V → Hp → VK → Prop := fun xs H Q => ∃ (a : Addr) (d : PyData), xs = [.ref a] ∧ Dp K H (.ref a) d ∧ d.showable = true ∧ d.hasDict = false ∧ d.depth ≤ 60 ∧ d.shown.length ≤ sizeLine ∧ Q (.str d.shown) H
theorem call_reprD (gds : X.A.guards = some []) (hu : X.A.units + 64 < cLine) : CallR X (.builtin "repr") (rReprD X.K) := by
  intro pins s σ H xs us Q I r h
  obtain ⟨a, d, rfl, hd, h1, h2, h3, h4, q⟩ := h
  rw [Vals.ref1 r]
  obtain ⟨as, rd⟩ := Dp.reads I d _ (Value.ref a) hd rfl
  exact repr_of_reads' rd h1 (fun z => by rw [h2] at z; cases z) gds (by omega) (fun _ _ z => z) (fun h' u tk hk => ⟨.str d.shown, H, I.kept (t' := tk) hk, ⟨_, rfl⟩, q⟩) h4
end
end CP
namespace CP
open PySem PySem.Spec PyProof.Rows L2
theorem callG {P : Program} {w : World} {K : PySem.W.Frag} {mg mb : Str → Option Value} {k : Nat} {fa a : Addr} {fd : FuncData} {x : Str} {sp : Sp} {s0 : Shared} {vs : List Value} {ns : List Int}
    (KX : K.In s0.heap) (n1 : s0.heap.Ns mainGlobals mg) (n2 : s0.heap.Ns builtinsNs mb) (n3 : ∀ x : Str, x ≠ "__name__" → mb x = bootBuiltins x) (lim : s0.heap.NoLimit) (gens : s0.gens = #[])
    (obj : s0.heap.get? a = some { cls := .type "list", data := .seq vs.toArray }) (hints : IntsAre vs ns) (few : ns.length ≤ sizeLine) (room : Room k callerA)
    (F : ∀ base : Heap, K.In base → base.Ns mainGlobals mg → FnG P w K mg base k fa fd [x] sp) (bind : ∀ (s : Shared) (u : Value), BindsTo s fd ⟨[u], []⟩ [(x, u)])
    (hsp : ∀ H : Hp, SqL K H a (ns.map V.int) → sp [.ref a] H (fun v _ => v = .bl true) fun _ _ _ => False) :
    codeAny (model P w) callerA (.call (.ref fa) ⟨[.ref a], []⟩) (fun r s' => r = .ok (.ret (.bool true)) ∧ OldK s0.heap s'.heap ∧ s'.os = s0.os ∧ AllBare s'.gens) s0 := by
  have rv := vals_ints hints
  have lenV := hints.length
  have core : ∀ H : Hp, (∀ b, H b = none ∨ ∃ ob xs, H b = some (.frz ob (.lst xs))) → SqL K H a (ns.map V.int) → HOk P w H s0.heap → (∀ b, H b ≠ none → b = a) → (H a ≠ none → K.lookup a = none) →
      codeAny (model P w) callerA (.call (.ref fa) ⟨[.ref a], []⟩) (fun r s' => r = .ok (.ret (.bool true)) ∧ OldK s0.heap s'.heap ∧ s'.os = s0.os ∧ AllBare s'.gens) s0 := by
    intro H only sq ok onlyA unk
    have noD : ∀ {b : Addr} {o : Obj} {es : Array DictEntry} {ep : Nat}, s0.heap.get? b = some o → o.data = .dict es ep → H b = none := fun {b o es ep} e d => by
      cases q : H b with
      | none => rfl
      | some u =>
        obtain rfl : b = a := onlyA b (by rw [q]; simp)
        rw [obj] at e; cases e; cases (show Data.seq vs.toArray _ = Data.dict es ep from d)
    have nsH : ∀ {b : Addr} {m : Str → Option Value}, s0.heap.Ns b m → (hidT s0.heap H).Ns b m := fun ⟨o, es, ep, e, d, r⟩ => ⟨o, es, ep, hidT_get e (noD e d), d, r⟩
    have kH : K.In (hidT s0.heap H) := fun b o e => hidT_get (KX b o e) (by
      cases q : H b with
      | none => rfl
      | some u =>
        obtain rfl : b = a := onlyA b (by rw [q]; simp)
        rw [unk (by rw [q]; simp)] at e; cases e)
    have md : Mod K mg (hidT s0.heap H) := ⟨kH, nsH n1, ⟨mb, nsH n2, n3⟩, let ⟨mc, h1, h2⟩ := lim; ⟨mc, nsH h1, h2⟩⟩
    have env0 : Env0 P w K mg (hidT s0.heap H) callerA [] s0 H := ⟨rfl, md, fun b o e => of_hidT e, Nat.le_of_eq (hidT_size _ _), trivial, fun b hb => absurd (show b ∈ ([] : List Addr) from hb) (by simp), ok, .of_eq gens⟩
    refine codeAny_mono ((F _ kH (nsH n1)).run callerA [] s0 H ⟨[.ref a], []⟩ [.ref a] [.ref a] _ _ room rfl env0 (bind s0 (.ref a)) (.cons rfl .nil) (hsp H sq)) fun r s' h => ?_
    match r, h with
    | .error e, h => exact (h : False).elim
    | .ok .next, h => exact False.elim h
    | .ok .brk, h => exact False.elim h
    | .ok .cont, h => exact False.elim h
    | .ok (.ret u), ⟨v, H', os, bare, un, ok', r', q⟩ =>
      obtain rfl : v = .bl true := q
      obtain rfl : u = Value.bool true := r'
      refine ⟨rfl, OldK.of_keep fun b o e => ?_, os, bare⟩
      rcases only b with q | ⟨ob, xs, q⟩
      · exact un.keep b o e q (fun z => absurd (show b ∈ ([] : List Addr) from z) (by simp)) (by simp)
      · obtain ⟨e1, _⟩ := ok b _ q
        obtain ⟨e2, _⟩ := ok' b _ (un.frzs b ob _ q)
        rw [e] at e1; cases e1; exact e2
  cases hk : K.lookup a with
  | some o =>
    have e := KX a o hk
    rw [obj] at e
    cases e
    exact core (fun _ => none) (fun _ => .inl rfl) (.inr ⟨_, vs.toArray, _, hk, rfl, rfl, rfl, by rw [List.size_toArray, lenV]; exact few, by simpa using rv⟩) (fun b u z => by cases (show (none : Option HO) = some u from z)) (fun b z => absurd rfl z) fun z => absurd rfl z
  | none =>
    refine core (fun b => if b = a then some (.frz { cls := .type "list", data := .seq vs.toArray } (.lst (ns.map V.int))) else none) (fun b => ?_) (.inl (.inr ⟨{ cls := .type "list", data := .seq vs.toArray }, if_pos rfl⟩)) (fun b u z => ?_) (fun b z => ?_) fun _ => hk
    all_goals by_cases hb : b = a
    · exact .inr ⟨_, _, if_pos hb⟩
    · exact .inl (if_neg hb)
    · have z' := (if_pos hb).symm.trans z
      cases z'; subst hb
      exact ⟨obj, by rw [List.length_map]; exact few, vs, _, rv, obj⟩
    · cases (if_neg hb).symm.trans z
    · exact hb
    · exact absurd (if_neg hb) z
theorem walkG {l : PySem.W.OpenLaw} {n k : Nat} {q : Program} {loose : List Str} {XP : (Str → Option Value) → Heap → Prop} {YP : World → Heap → Prop} {d : DefRec} {K : Params → PySem.W.Frag} {sp : PySem.W.Frag → Sp} {x : Str}
    (hn : l.most = some n) (hn2 : n ≤ sizeLine) (hdf : d.params.defaults = []) (room : Room k callerA) (hY : ∀ (w : World) (h : Heap), YP w h → (K w.params).In h)
    (F : ∀ (w : World) (mg : Str → Option Value) (fa : Addr) (h : Heap), (K w.params).In h → h.Ns mainGlobals mg → mg d.name = some (.ref fa) → ∃ fd : FuncData, (∀ (s : Shared) (u : Value), BindsTo s fd ⟨[u], []⟩ [(x, u)]) ∧
        ∀ base : Heap, (K w.params).In base → base.Ns mainGlobals mg → FnG l.prog w (K w.params) mg base k fa fd [x] (sp (K w.params)))
    (hsp : ∀ (K : PySem.W.Frag) (H : Hp) (a : Addr) (ns : List Int), ns.length ≤ n → SqL K H a (ns.map V.int) → sp K [.ref a] H (fun v _ => v = .bl true) fun _ _ _ => False) :
    PySem.W.WalkO q loose XP YP l.row.toRowW d [] (fun f vs => PySem.call f vs) := by
  refine Att.attach_call hn hdf fun w s0 s1 mg mb fa o pm cd doc a vs ns G Y ho hd hcd hmg hobj hints hlen hg => ?_
  have KX := hY w _ Y
  obtain ⟨fd, hb, hF⟩ := F w mg fa _ KX G.T.g hmg
  exact callG KX G.T.g G.T.b G.T.builtins G.T.nolimit hg hobj hints (Nat.le_trans hlen hn2) room hF hb fun H hS => hsp _ H a ns hlen hS
end CP
/-! Exceptions as values: made, kept, asked for their class, their fields read. -/
namespace CP
open PySem PySem.Spec PyProof.Rows L2
/-- an exception of a built-in class at a -/
def bxo (a : Addr) (T : String) : HO := .ext fun h => ∃ o, h.get? a = some o ∧ o.cls = .type T
theorem bxo_ok {P : Program} {w : World} {H : Hp} {h : Heap} {a : Addr} {T : String} {o : Obj} (e : h.get? a = some o) (c : o.cls = .type T) : ObjOk P w H h a (bxo a T) :=
  ⟨⟨o, e, c⟩, ⟨o, e⟩, fun _ _ ⟨o, q, r⟩ k => ⟨o, k o q, r⟩⟩
/-- what isinstance and the fields' reading want of the class -/
structure XCls (K : PySem.W.Frag) (C : Addr) : Prop where
  cl : (PySem.W.clsIn K C).isSome = true
  ga : PySem.W.findIn K (.ref C) "__getattribute__" = some (some (.builtin "BaseException.__getattribute__"))
  gg : PySem.W.findIn K (.ref C) "__getattr__" = some none
  sb : PySem.W.subIn K (.ref C) (.type "BaseException") = some true
  hd : PySem.W.hasDictIn K C = true
  ca : PySem.W.findIn K (.ref C) "__class__" = some (some (.builtin "object.__class__"))
  sg : PySem.W.specialIn K (.builtin "object.__class__") "__get__" = some (some (.builtin "getset_descriptor.__get__"))
  tk : PySem.W.takesIn K (.builtin "object.__class__") = some true
  mo : PySem.W.mroIn K C (.type "object") = some true
/-- an exception value: of an own class (with a field or without), or a ValueError -/
inductive TyE (K : PySem.W.Frag) (H : Hp) : V → Value → Prop where
  | plain {a C : Addr} (h : H a = some (exo a C none)) (T : XCls K C) : TyE K H (.ref a) (.ref C)
  | field {a C d : Addr} {fs : List (Str × V)} (h : H a = some (exo a C (some d))) (hd : H d = some (exd d fs)) (T : XCls K C) : TyE K H (.ref a) (.ref C)
  | blt {a : Addr} (h : H a = some (bxo a "ValueError")) : TyE K H (.ref a) (.type "ValueError")
section
variable {X : Cx} {pins : List (Addr × Obj)} {σ : L2.St} {H : Hp} {s : Shared}
theorem exd_get {P : Program} {w : World} {h : Heap} {dx : Addr} {fs : List (Str × V)} (ok : HOk P w H h) (he : H dx = some (exd dx fs)) : ∃ o, h.get? dx = some o := by
  obtain ⟨mA, ⟨o, _, _, e, _⟩, _⟩ := exd_at ok he
  exact ⟨o, e⟩
def rIsiE (K : PySem.W.Frag) : List V → Hp → VK → Prop := fun xs H Q => ∃ (x c : V) (t u : Value) (b : Bool), xs = [x, c] ∧ ClsV c u ∧ TyE K H x t ∧ PySem.W.kitOne K t u = some b ∧ Q (.bl b) H
theorem call_isiE : CallR X (.builtin "isinstance") (rIsiE X.K) := by
  intro pins s σ H xs us Q I r h
  obtain ⟨x, c, t, u, b, rfl, k, ty, e, q⟩ := h
  obtain ⟨u1, u2, rfl, r1, r2⟩ := vals2 r
  have e2 := k.eq r2
  subst e2
  cases ty with
  | @plain a C h T =>
    cases (show u1 = Value.ref a from r1)
    obtain ⟨t1, ho⟩ := exo_at I.hok h
    exact PySem.W.kia_one (PySem.W.kitx_exc (od := none) T.cl T.ga T.gg T.sb T.ca T.sg T.tk T.mo) I.kIn ⟨ho, rfl, rfl, trivial⟩ e (fun z => nomatch z) fun tk => ⟨.bl b, H, I.tok tk, rfl, q⟩
  | @field a C d fs h hd T =>
    cases (show u1 = Value.ref a from r1)
    obtain ⟨t1, ho⟩ := exo_at I.hok h
    obtain ⟨oD, hoD⟩ := exd_get I.hok hd
    exact PySem.W.kia_one (PySem.W.kitx_exc (od := some oD) T.cl T.ga T.gg T.sb T.ca T.sg T.tk T.mo) I.kIn ⟨ho, rfl, rfl, hoD⟩ e (fun z => nomatch z) fun tk => ⟨.bl b, H, I.tok tk, rfl, q⟩
  | @blt a h =>
    cases (show u1 = Value.ref a from r1)
    obtain ⟨o, ho, hc⟩ := (I.hok a _ h).1
    exact PySem.W.kia_one (PySem.W.kitx_bexc PySem.F.excAttr_ValueError PySem.F.lkClass_ValueError PySem.F.soClass_ValueError (by decide)) I.kIn ⟨o, ho, hc⟩ e (fun z => nomatch z) fun tk => ⟨.bl b, H, I.tok tk, rfl, q⟩
/-- e.f, e such a value -/
def tFldE (K : PySem.W.Frag) (f : Str) (te : TE) : TE := fun σ H Q => te σ H fun x H1 => ∃ (a C d : Addr) (fs : List (Str × V)) (v : V), x = .ref a ∧ H1 a = some (exo a C (some d)) ∧ H1 d = some (exd d fs) ∧ XCls K C ∧ PySem.W.findIn K (.ref C) f = some none ∧ fs.lookup f = some v ∧ Q v H1
theorem pe_fldE {e : Expr} {te : TE} {pos : Pos} {n : Str} (he : PE X e te) (hb : attributeBase e n X.env (eval e X.env) = eval e X.env := by rfl) : PE X (.Attribute e n pos) (tFldE X.K n te) := by
  refine ⟨fun pins s σ H Q I h => attr_of hb (thn (he.run pins s σ H _ I h) fun u s1 ⟨x, H1, I1, rx, a, C, d, fs, v, ex, ha, hd, T, no, l, q⟩ => ?_)⟩
  subst ex
  obtain rfl : u = Value.ref a := rx
  obtain ⟨t1, ho⟩ := exo_at I1.hok ha
  obtain ⟨mA, hns, hr⟩ := exd_at I1.hok hd
  obtain ⟨od, ho2, hl⟩ := lookIn_ns hns
  obtain ⟨u, hu, ru⟩ := RelO.some_of (v := v) (o := mA n) (by rw [← l]; exact hr n)
  exact HandSPX.exc_get I1.kIn ⟨ho, rfl, rfl, ho2⟩ T.ga T.gg T.sb (PySem.W.findObj_own T.hd no rfl (by rw [hl, hu])) (handed_of ru) ⟨v, H1, I1.tok _, ru, q⟩
/-- a new object at an address that the heap has not -/
theorem laid_new {h' : Heap} {a : Addr} {o : HO} {t' : Nat} (I : L2.Inv X pins σ H s) (k : ∀ b u, s.heap.get? b = some u → h'.get? b = some u) (new : s.heap.get? a = none) (hn : H a = none) (ok : ObjOk X.prog X.w (L2.upd H a o) h' a o) : L2.Inv X pins σ (L2.upd H a o) { s with heap := h', toks := t' } := by
  refine I.un ⟨fun b u q _ _ _ => k b u q, fun b u q _ _ _ => ⟨u.slots, k b u q⟩, fun b u q n _ => ?_, fun b u q _ => ⟨u, k b u q⟩, fun b xs q => ?_, fun b u xs q => ?_, fun b ps q => ⟨#[], ?_⟩⟩ fun b u e => ?_
  · rw [upd_ne (fun z => by rw [z, new] at q; cases q)]; exact n
  · rw [upd_ne (ne_of_none q hn)]; exact q
  · rw [upd_ne (ne_of_none q hn)]; exact q
  · rw [upd_ne (ne_of_none q hn), q]; simp
  · by_cases hb : b = a
    · subst hb; rw [upd_same] at e; cases e; exact ok
    · rw [upd_ne hb] at e
      exact (I.hok b u e).stay (fun c v _ q => k c v q) (fun c q => by rw [upd_ne (ne_of_none q hn)]; exact q) fun c xs q => by rw [upd_ne (ne_of_none q hn)]; exact q
/-- ValueError('x') -/
theorem pe_bexc {m : Str} {j : Nat} {p p2 pos : Pos} (hg : Gl X "ValueError") (hm : X.mg "ValueError" = none) : PE X (.Call (.Name "ValueError" p) [.Constant (.str m) j p2] [] pos) (fun _ H Q => ∀ a, H a = none → Q (.ref a) (L2.upd H a (bxo a "ValueError"))) := by
  refine ⟨fun pins s σ H Q I h => wpAny_Call_Name_kw (ld_blt I hg hm boot_ValueError ?_ (by decide) (by decide))⟩
  refine PyProof.Rows.callWith_type1 (thn ((pa_cons (pe_str (x := m) (j := j) (pos := p2)) pa_nil).run pos pins s σ H (fun vs H1 => H1 = H ∧ vs.length = 1) I ⟨rfl, rfl⟩) fun us s1 ⟨vs, H1, I1, r1, eH, l1⟩ => ?_) rfl rfl
  subst eH
  obtain ⟨hp1, g1, d1, tk1, os1⟩ := s1
  refine wpAny_call_exc exb_ValueError.call (fun h' a mk => ?_) (by rw [← r1.length, l1, sizeLine_eq]; omega)
  have hn := I1.hok.gone mk.new
  obtain ⟨t, ht, _⟩ := mk.there
  exact ⟨.ref a, _, laid_new (t' := tk1) I1 mk.keeps mk.new hn (bxo_ok ht rfl), rfl, h a hn⟩
/-- C(), an own class without own __init__ -/
theorem pe_exc0 {C : Addr} {bmB : List Value} {B newId initId : String} {x : Str} {p pos : Pos} (F : ExcBaseFacts B newId initId bmB) (q : PySem.W.excIn X.K C bmB newId = true) (gC : X.mg x = some (.ref C)) (kC : PySem.W.keepIn X.K (.ref C) = true) (hg : Gl X x)
    (hdb : (x == ("__debug__" : Str)) = false := by decide) : PE X (.Call (.Name x p) [] [] pos) (fun _ H Q => ∀ a, H a = none → Q (.ref a) (L2.upd H a (exo a C none))) := by
  refine ⟨fun pins s σ H Q I h => wpAny_Call_Name_kw (ld_glob I hg gC (PySem.W.callWith_K0 I.kIn kC ?_) hdb)⟩
  obtain ⟨bm, N, nm, qn, bs, hdct, sn, sub, ab, col, dd, k0, k1, k2, k3, k5, mN, hC, hN, hni, T⟩ := exc_obj I.kIn q
  refine wpAny_call_exc_subT F T hC hN hni (fun h' a mk => ?_) (Nat.zero_le _)
  have hn := I.hok.gone mk.new
  obtain ⟨t, ht, _⟩ := mk.there
  exact ⟨.ref a, _, laid_new (t' := s.toks) I mk.keeps mk.new hn (exo_ok ht), rfl, h a hn⟩
/-- C(e), C's own __init__ keeping sp, as a value -/
def tMkV (C : Addr) (sp : Sp) (ta : TA) : TE := fun σ H Q => ta σ H fun vs H1 => vs.length ≤ 1000 ∧ ∀ a, H1 a = none → sp (.ref a :: vs) (L2.upd H1 a (exo a C none)) (fun v H2 => v = .non ∧ Q (.ref a) H2) E0
theorem pe_excI {e : Expr} {es : List Expr} {ta : TA} {x : Str} {C fI : Addr} {k : Nat} {fd : FuncData} {ps : List Str} {sp : Sp} {p pos : Pos} (T : OexC X.K C) (iC : PySem.W.findIn X.K (.ref C) "__init__" = some (some (.ref fI))) (tI : PySem.W.typeIn X.K (.ref fI) = some (.type "function"))
    (F1 : FnOk X.prog X.w X.K X.mg X.base CX0 k fI fd ps sp) (hr : Room (k + 1) X.A) (hb : Binds X.K fd ps []) (hg : Gl X x) (hm : X.mg x = some (.ref C)) (ha : PA X (e :: es) ta)
    (hdb : (x == ("__debug__" : Str)) = false := by decide) (he : starEach (e :: es) X.env = (false, eval e X.env) :: starEach es X.env := by rfl) (hpl : (backTo pos (starEach es X.env)).any (·.1) = false := by rfl) : PE X (.Call (.Name x p) (e :: es) [] pos) (tMkV C sp ta) := by
  obtain ⟨nm, q, N, bs, bm, sn, sub, ab, col, dd, k0, k1, k2, k3, k5, hC, hbm⟩ := T.cls
  refine ⟨fun pins s σ H Q I h => wpAny_Call_Name_kw (ld_glob I hg hm ?_ hdb)⟩
  refine PySem.W.callWith_K (h₀ := X.base) I.ok.mod.kin T.kC (thn (ha.run pos pins s σ H _ I h) fun us s1 ⟨vs, H1, I1, r1, hz, q1⟩ => ⟨I1.kIn, ?_⟩) he hpl
  show wpAny _ _ (call (.ref C) us) _ _ _
  obtain ⟨hp, g, dr, tk, os⟩ := s1
  have below : hp.objs.size ≤ hp.objs.size + 1 := Nat.le_succ _
  have fresh : H1 (hp.objs.size + 1) = none := I1.hok.fresh below
  have want := q1 (hp.objs.size + 1) fresh
  generalize hh2 : (hp.push (PySem.W.kdv_tup us)).push (PySem.HandSPX.excO C hp.objs.size) = hp2
  have keep : ∀ b o, hp.get? b = some o → hp2.get? b = some o := fun b o e => by rw [← hh2]; exact Heap.get?_push_of_some _ (Heap.get?_push_of_some _ e)
  have got : hp2.get? (hp.objs.size + 1) = some (PySem.HandSPX.excO C hp.objs.size) := by rw [← hh2]; heap_get
  have I2 : L2.Inv X pins σ (L2.upd H1 (hp.objs.size + 1) (exo (hp.objs.size + 1) C none)) ⟨hp2, g, dr, tk, os⟩ := I1.laid (t' := tk) (h' := hp2) keep below (exo_ok got)
  have r2 : Vals (V.ref (hp.objs.size + 1) :: vs) (Value.ref (hp.objs.size + 1) :: us) := .cons rfl r1
  have hl : (Value.ref (hp.objs.size + 1) :: us ++ []).length = ps.length := by
    rw [List.append_nil, ← r2.length]; exact F1.len _ _ _ _ want
  have few : us.length ≤ sizeLine := by rw [← Paired.length r1, sizeLine_eq]; omega
  have bnd := hb ⟨hp2, g, dr, tk, os⟩ (Value.ref (hp.objs.size + 1) :: us) I2.kIn hl
  rw [List.append_nil] at bnd
  refine wpAny_call (PySem.HandSPX.call_own F.excBase_ValueError (fun Y => PySem.HandSPX.refsVE_contains Y bm hbm) (I1.kIn _ _ hC) (PySem.W.looks_findIn I1.kIn iC) (fun self => PySem.W.bind_fn I1.kIn self tI) few ?_)
  rw [hh2]
  refine codeAny_mono (F1.run _ X.stack _ _ ⟨Value.ref (hp.objs.size + 1) :: us, []⟩ (Value.ref (hp.objs.size + 1) :: us) _ _ E0 (hr.make C us []) (I2.env0.make C us []) bnd r2 want) fun r s' hq => ?_
  match r, hq with
  | .error er, hq => exact (hq : False).elim
  | .ok .next, hq => exact False.elim hq
  | .ok .brk, hq => exact False.elim hq
  | .ok .cont, hq => exact False.elim hq
  | .ok (.ret u), ⟨v, H2, os2, bare2, un2, hok2, rv, ev, q2⟩ =>
    subst ev
    exact ⟨rv, .ref (hp.objs.size + 1), H2, I2.call' (ch := []) os2 un2 hok2 bare2 (fun b z => absurd z (by simp)), rfl, q2⟩
end
end CP
/-! sets of tuples of texts: set(), add, in -/
namespace CP
open PySem PySem.Spec PyProof.Rows L2
/-- at b a tuple of the texts k -/
def TkH (H : Hp) (b : Addr) (k : List Str) : Prop := H b = some (.tup (k.map V.str))
theorem TkH.same {H H' : Hp} {b : Addr} {k : List Str} (h : TkH H b k) (s : Same H H') : TkH H' b k := s _ _ h
theorem TkH.upd {H : Hp} {a b : Addr} {k : List Str} {o o' : HO} (h : TkH H b k) (ha : H a = some o) (n : ∀ xs, o ≠ .tup xs) : TkH (L2.upd H a o') b k := by
  unfold TkH; rw [upd_ne (fun q => by have h' : H b = _ := h; rw [q, ha] at h'; exact n _ (Option.some.inj h'))]; exact h
section
variable {X : Cx} {pins : List (Addr × Obj)} {σ : L2.St} {H : Hp} {s : Shared}
theorem tk_is {b : Addr} {k : List Str} (I : L2.Inv X pins σ H s) (h : TkH H b k) : TxtAt X.prog X.w s.heap k b := txt_at I (SqT.of h)
/-- the set at a, but for the keys' own tuples -/
def SetInE (P : Program) (w : World) (a : Addr) (L : List (Addr × List Str)) (h : Heap) : Prop :=
  ∃ es ep t, (∃ o, h.get? a = some o ∧ o.ExactSet ∧ o.data = .set es ep t) ∧ es.toList = rowsK (txtK P w) L ∧ TabG t (hsK (txtK P w) L) ∧ (L.map (·.2)).Nodup ∧ L.length * 5 < t.mask * 3 ∧ L.length < 250
def SetNE (P : Program) (w : World) (a : Addr) (L : List (Addr × List Str)) : HO := .ext (SetInE P w a L)
theorem setNE_ok {P : Program} {w : World} {H : Hp} {h : Heap} {a : Addr} {L : List (Addr × List Str)} (R : SetInE P w a L h) : ObjOk P w H h a (SetNE P w a L) := by
  have ⟨es, ep, t, ⟨o, ho, _⟩, _⟩ := R
  exact ⟨R, ⟨o, ho⟩, fun h1 h2 ⟨es', ep', t', ⟨o', ho', r'⟩, q'⟩ k => ⟨es', ep', t', ⟨o', k o' ho', r'⟩, q'⟩⟩
theorem SK.isInE {P : Program} {w : World} {h : Heap} {a : Addr} {L : List (Addr × List Str)} {es : Array (Int × Value)} {ep : Nat} {t : SetTable} (R : SK (txtK P w) h a L es ep t) : SetInE P w a L h := ⟨es, ep, t, R.obj, R.row, R.tab, R.nod, R.roo, R.few⟩
theorem setNE_get {a : Addr} {L : List (Addr × List Str)} (I : L2.Inv X pins σ H s) (ha : H a = some (SetNE X.prog X.w a L)) (hk : ∀ p ∈ L, TkH H p.1 p.2) : ∃ es ep t, SK (txtK X.prog X.w) s.heap a L es ep t := by
  obtain ⟨es, ep, t, h1, h2, h3, h4, h5, h6⟩ := (I.hok a _ ha).1
  exact ⟨es, ep, t, h1, h2, h3, h4, fun p hp => tk_is I (hk p hp), h5, h6⟩
/-- set() -/
def rSet0E (P : Program) (w : World) : List V → Hp → VK → Prop := fun xs H Q => xs = [] ∧ ∀ p, H p = none → Q (.ref p) (L2.upd H p (SetNE P w p []))
theorem cr_set0E0 : CallR X (.type "set") (rSet0E X.prog X.w) := by
  intro pins s σ H xs us Q I r h
  obtain ⟨rfl, q⟩ := h
  cases r
  refine setR_new fun _ => ?_
  have new := SK.new (F := txtK X.prog X.w) (h := s.heap.push (newSet X.w)) (a := s.heap.objs.size) (b := !X.w.params.followText "set-order") (Heap.get?_push_size _ rfl)
  exact ⟨.ref _, L2.upd H s.heap.objs.size (SetNE X.prog X.w s.heap.objs.size []), I.laid (t' := s.toks) (fun b u e => Heap.get?_push_of_some _ e) (Nat.le_refl _) (setNE_ok new.isInE), rfl, q _ (I.hok.fresh (Nat.le_refl _))⟩
/-- seen.add(pair) -/
def rSAddE (P : Program) (w : World) : V → List V → Hp → VK → Prop := fun x xs H Q => ∃ (a b : Addr) (k : List Str) (L : List (Addr × List Str)), x = V.ref a ∧ xs = [.ref b] ∧ H a = some (SetNE P w a L) ∧ (∀ p ∈ L, TkH H p.1 p.2) ∧ TkH H b k ∧ L.length + 1 < 250 ∧
  ∀ L', (k ∈ L.map (·.2) → L' = L) → (k ∉ L.map (·.2) → L'.Perm ((b, k) :: L)) → Q .non (L2.upd H a (SetNE P w a L'))
theorem mt_saddE (hu : X.A.units + 64 < cLine) : MtR X "set.add" (rSAddE X.prog X.w) := by
  intro pins s σ H x xs v us Q I rx rxs h
  obtain ⟨a, b, k, L, rfl, rfl, ha, hk, hb, few, q⟩ := h
  cases rx
  rw [Vals.ref1 rxs]
  obtain ⟨es, ep, t, R⟩ := setNE_get I ha hk
  obtain ⟨o, ho, hex, hd⟩ := R.obj
  have ty : s.TypeIs (.ref a) "set" := ⟨o, ho, hex.1⟩
  refine wpAny_call_entry PySem.F.slot_set_add ty PySem.F.entry_set_add ?_ (PySem.F.args_set_add_2 _ _)
  unfold Builtin.«set.add» Builtin.Frozenset.oneOther
  simp only [List.isEmpty_nil, bind_assoc]
  unfold Builtin.Frozenset.addrOf setAdd
  refine wpAny_bind (wpAny_pure ?_)
  try dsimp only
  refine wpAny_bind (wpAny_pure ?_)
  try dsimp only
  refine wpAny_bind (wpAny_holding (wpAny_bind ((txtK X.prog X.w).pyh (by simp; omega) (tk_is I hb) fun tn => ?_)))
  refine put_in (s := { s with toks := s.toks + tn }) R (show (txtK X.prog X.w).At s.heap k b from tk_is I hb) (by simp; omega) few fun c h' L' es' ep' t' sb R' c1 c2 => ?_
  show wpAny _ _ (ret Value.none) _ _ _
  obtain ⟨o', ho', _⟩ := R'.obj
  exact wpAny_pure ⟨_, rfl, .non, L2.upd H a (SetNE X.prog X.w a L'), I.write (e := a) (t' := s.toks + tn) (by rw [ha]; trivial) (.inl rfl) (fun b u hb hu => (sb.2 b hb).trans hu) ⟨o', ho'⟩ (setNE_ok R'.isInE), rfl, q L' c1 c2⟩
/-- pair in seen -/
def rSInSE (P : Program) (w : World) : V → V → Hp → VK → Prop := fun x y H Q => ∃ (b a : Addr) (k : List Str) (L : List (Addr × List Str)), x = .ref b ∧ y = V.ref a ∧ H a = some (SetNE P w a L) ∧ (∀ p ∈ L, TkH H p.1 p.2) ∧ TkH H b k ∧ Q (.bl (decide (k ∈ L.map (·.2)))) H
theorem or_sinE0 (hu : X.A.units + 64 < cLine) : OpR X (compareOp .In) (rSInSE X.prog X.w) := by
  intro pins s σ H x y v u Q I rx ry h
  obtain ⟨b, a, k, L, rfl, rfl, ha, hk, hb, q⟩ := h
  cases rx
  cases ry
  obtain ⟨es, ep, t, R⟩ := setNE_get I ha hk
  obtain ⟨o, ho, hex, hd⟩ := R.obj
  have ty : s.TypeIs (.ref a) "set" := ⟨o, ho, hex.1⟩
  show wpAny _ _ (do return Value.bool (← contains (.ref a) (.ref b))) _ _ s
  refine wpAny_bind ?_
  unfold contains
  try with_reducible refine wpAny_holding ?_
  refine wpAny_bind (wpAny_specialOf ty PySem.F.slot_set_contains.lookup ?_)
  rw [if_neg (by rw [beq_builtin_none]; exact Bool.false_ne_true)]
  refine wpAny_bind (wpAny_callSpecialUnlessNone?_slot (name := Str.ofString "__contains__") ty PySem.F.slot_set_contains (wpAny_call_entry PySem.F.slot_set_contains ty PySem.entry_set_contains ?_ (PySem.F.args_set_contains_2 _ _)))
  unfold Builtin.«frozenset.__contains__» Builtin.Frozenset.oneOther
  simp only [List.isEmpty_nil, bind_assoc]
  unfold Builtin.Frozenset.addrOf Builtin.Frozenset.withSetAsKey setContains
  refine wpAny_bind (wpAny_pure ?_)
  try dsimp only
  refine wpAny_bind (wpAny_pure ?_)
  try dsimp only
  refine wpAny_bind (wpAny_tryCatch (wpAny_holding (wpAny_bind ((txtK X.prog X.w).pyh (by simp; omega) (tk_is I hb) fun tn => ?_))))
  refine wpAny_bind (find_in (s := { s with toks := s.toks + tn }) R (show (txtK X.prog X.w).At s.heap k b from tk_is I hb) (by simp; omega) fun r hr => wpAny_pure ?_)
  show wpAny _ _ (ret (Value.bool r.isSome)) _ _ _
  have hr2 : r.isSome = decide (k ∈ L.map (·.2)) := hr.trans (decide_eq_decide.mpr Iff.rfl)
  rw [hr2]
  exact wpAny_pure ⟨_, rfl, wpAny_truthy_bool (wpAny_pure ⟨.bl _, H, I.tok _, rfl, q⟩)⟩
end
end CP
namespace CP
open PySem PySem.Spec PyProof.Rows L2
section
variable {X : Cx} {o e : Expr} {es : List Expr} {to : TE} {t : TA} {apos cpos : Pos}
def tSAddE (P : Program) (w : World) (to : TE) (t : TA) : TE := fun σ H Q => to σ H fun x H1 => (∃ a L, x = V.ref a ∧ H1 a = some (SetNE P w a L)) ∧ t σ H1 fun xs H2 => rSAddE P w x xs H2 Q
/-- seen.add(pair), as it is written -/
theorem pe_saddE0 (hu : X.A.units + 64 < cLine) (ho : PE X o to) (ha : PA X (e :: es) t) (hbase : attributeBase o "add" X.env (eval o X.env) = eval o X.env := by rfl)
    (hfew : ((backTo cpos (starEach (e :: es) X.env)).all (fun x => !x.1) && (backToKw cpos (keywordEach [] X.env)).all (fun x => x.1.isSome) && decide ((e :: es).length + ([] : List Keyword).length + (if ([] : List Keyword).isEmpty then 0 else 1) < 30)) = true := by rfl)
    (hline : (apos.endLine == cpos.line) = true := by rfl) (hs : starEach (e :: es) X.env = (false, eval e X.env) :: starEach es X.env := by rfl) (hplain : (backTo cpos (starEach es X.env)).any (·.1) = false := by rfl) :
    PE X (.Call (.Attribute o "add" apos) (e :: es) [] cpos) (tSAddE X.prog X.w to t) := by
  refine ⟨fun pins s σ H Q I h => wpAny_Call_method_late hbase hfew hline rfl (thn (ho.run pins s σ H _ I h) fun v s1 ⟨x, H1, I1, r1, ⟨a, L, ex, hS⟩, q1⟩ => ?_)⟩
  subst ex
  cases r1
  obtain ⟨es', ep, tb, ⟨ob, h1, h2, h3⟩, _⟩ := (I1.hok a _ hS).1
  have nd : ∀ b, Value.ref a = .ref b → ∃ o', s1.heap.get? b = some o' ∧ o'.dict = none := fun b z => by cases z; exact ⟨ob, h1, h2.2.1⟩
  refine ⟨"set", "set.add", F.plainAttrs_set, F.slot_set_add, F.type_set_add, ⟨ob, h1, h2.1⟩, nd, ?_⟩
  have hA := ha.run cpos pins s1 σ H1 _ I1 q1
  rw [hs] at hA ⊢
  refine Calls.callWith_builtin (by show (false || (backTo cpos (starEach es X.env)).any (·.1)) = false; rw [hplain]; rfl) (Calls.evalArgs_plain (thn hA fun us s2 ⟨vs, H2, I2, r2, q2⟩ => ?_))
  exact mt_saddE hu pins s2 σ H2 (.ref a) vs (.ref a) us Q I2 rfl r2 q2
end
end CP
namespace CP
open PySem PySem.Spec PyProof.Rows L2
section
variable {X : Cx} (P : Program) (w : World)
theorem cr_set0E (h1 : X.prog = P) (h2 : X.w = w) : CallR X (.type "set") (rSet0E P w) := by subst h1; subst h2; exact cr_set0E0
theorem or_sinE (h1 : X.prog = P) (h2 : X.w = w) (hu : X.A.units + 64 < cLine) : OpR X (compareOp .In) (rSInSE P w) := by subst h1; subst h2; exact or_sinE0 hu
theorem pe_saddE (h1 : X.prog = P) (h2 : X.w = w) {o e : Expr} {es : List Expr} {to : TE} {t : TA} {apos cpos : Pos} (hu : X.A.units + 64 < cLine) (ho : PE X o to) (ha : PA X (e :: es) t) (hbase : attributeBase o "add" X.env (eval o X.env) = eval o X.env := by rfl)
    (hfew : ((backTo cpos (starEach (e :: es) X.env)).all (fun x => !x.1) && (backToKw cpos (keywordEach [] X.env)).all (fun x => x.1.isSome) && decide ((e :: es).length + ([] : List Keyword).length + (if ([] : List Keyword).isEmpty then 0 else 1) < 30)) = true := by rfl)
    (hl : (apos.endLine == cpos.line) = true := by rfl) (hs : starEach (e :: es) X.env = (false, eval e X.env) :: starEach es X.env := by rfl) (hp : (backTo cpos (starEach es X.env)).any (·.1) = false := by rfl) :
    PE X (.Call (.Attribute o "add" apos) (e :: es) [] cpos) (tSAddE P w to t) := by subst h1; subst h2; exact pe_saddE0 hu ho ha hbase hfew hl hs hp
end
end CP
/-! x != y of two instances of one class that has its own __eq__ and no __ne__ -/
namespace CP
open PySem PySem.Spec PyProof.Rows PySem.SeqAt L2
section
variable {M : Model} {prog : Program} {w : World} {A : Around} {E : Value → Shared → Prop} {s : Shared} {K : PySem.W.Frag} {x C : Addr} {ox : Obj} {od : Option Obj}
theorem ifBound_objNe {args : List Value} {Q : Option Value → Shared → Prop} (X : K.In s.heap) (I : PySem.W.InstAt s.heap x ox C od) (hs : PySem.W.findIn K (.ref C) "__ne__" = some (some (.builtin "object.__ne__")))
    (h : wpAny M A (call (.builtin "object.__ne__") (.ref x :: args)) (fun v => Q (some v)) E s) : wpAny M A (callSpecialIfBound? (.ref x) "__ne__" args) Q E s := by
  simp only [callSpecialIfBound?, bindSpecialIfBound?]
  refine wpAny_holding (wpAny_bind (wpAny_bind (wpAny_bind (I.type.here ((PySem.W.looks_findIn X hs).here ?_)))))
  refine wpAny_bind (wpAny_askSetting (wpAny_ite ?_))
  have fin : wpAny M A (call (.builtin "object.__ne__") ([.ref x] ++ args) >>= fun v => pure (some v)) Q E s := wpAny_bind (wpAny_mono h (fun v s' h' => wpAny_pure h') fun _ _ h' => h')
  split
  · exact wpAny_bind (wpAny_of_eq (F.cmp_object.ne.bind _) (wpAny_pure (by exact fin)))
  · exact wpAny_tryCatch (wpAny_bind (wpAny_of_eq (F.cmp_object.ne.bind _) (wpAny_pure (by exact fin))))
theorem objNe_body {y f : Addr} (hu : A.units < cLine) (X : K.In s.heap) (I : PySem.W.InstAt s.heap x ox C od) (he : PySem.W.findIn K (.ref C) "__eq__" = some (some (.ref f))) (hf : PySem.W.isFn K (.ref f) = true) {Q : Fin → Shared → Prop}
    (hcall : wpAny M A (call (.ref f) [.ref x, .ref y]) (fun v s' => ∃ b, v = .bool b ∧ Q (.done (.ret (.bool (!b)))) s') E s) : wpAny M A (Builtin.«object.__ne__» ⟨[.ref x, .ref y], []⟩) Q E s := by
  unfold Builtin.«object.__ne__»
  repeat (first
    | with_reducible refine wpAny_cRoomFor hu ?_
    | (refine wpAny_bind (m := callSpecialIfBound? (.ref x) (Str.ofString "__eq__") [.ref y])
        (PySem.W.ifBound_K X I he hf (wpAny_mono hcall (fun r s' hr => by
          obtain ⟨b, rfl, hq⟩ := hr
          repeat (first | exact hq | exact wpAny_pure hq | exact wpAny_truthy_bool hq | (refine wpAny_bind (m := truthy (.bool _)) (wpAny_truthy_bool ?_)) | wp_step)) fun _ _ e => e)))
    | wp_step)
end
section
variable {X : Cx} {C f : Addr} {fd : FuncData} {ps : List Str} {n : Nat} {sp : Sp}
def rNeI (C : Addr) (sp : Sp) : R2 := fun x y H Q => ∃ a b dx dy fs gs, x = .ref a ∧ y = .ref b ∧ H a = some (.ins C dx fs) ∧ H b = some (.ins C dy gs) ∧ sp [.ref a, .ref b] H (fun v H' => ∃ r, v = .bl r ∧ Q (.bl (!r)) H') E0
theorem op_neI (FE : FnOk X.prog X.w X.K X.mg X.base CX0 n f fd ps sp) (hr : Room (n + 1) X.A) (he : PySem.W.findIn X.K (.ref C) "__eq__" = some (some (.ref f))) (hf : PySem.W.isFn X.K (.ref f) = true) (hn : PySem.W.findIn X.K (.ref C) "__ne__" = some (some (.builtin "object.__ne__")))
    (hb : Binds X.K fd ps []) (hm : PySem.W.mroIn X.K C (.type "object") = some true) : OpR X (compareOp .NotEq) (rNeI C sp) := by
  intro pins s σ H x y v u Q I rx ry h
  obtain ⟨a, b, dx, dy, fs, gs, rfl, rfl, ha, hb', hsp⟩ := h
  cases rx
  cases ry
  obtain ⟨mA, J, _⟩ := ins_get I.hok ha
  obtain ⟨mB, J', _⟩ := ins_get I.hok hb'
  obtain ⟨od, J, _⟩ := J.look
  obtain ⟨od', J', _⟩ := J'.look
  have hu : X.A.units + 1 < cLine := hr.in1.units0
  have hl := FE.len _ _ _ _ hsp
  have r2 : Vals [V.ref a, V.ref b] [Value.ref a, Value.ref b] := .cons rfl (.cons rfl .nil)
  have core : wpAny (model X.prog X.w) X.A.in1 (call (.ref f) [.ref a, .ref b]) (fun v s' => ∃ r, v = .bool r ∧ EP X pins σ Q (.bool (!r)) s') X.xe s := by
    refine wpAny_call (codeAny_mono (FE.run X.A.in1 X.stack s H ⟨[.ref a, .ref b], []⟩ [.ref a, .ref b] [.ref a, .ref b] _ E0 hr.in1 I.env0.in1 (by
      have := hb s [.ref a, .ref b] I.kIn (by simpa using hl)
      simpa using this) r2 hsp) fun r s' hq => ?_)
    cases r with
    | error e => exact (hq : False).elim
    | ok fl =>
      cases fl with
      | ret w =>
        obtain ⟨z, H', I', rz, r, ez, q⟩ := I.after hq
        subst ez
        cases rz
        exact ⟨r, rfl, .bl (!r), H', I', rfl, q⟩
      | next => exact False.elim hq
      | brk => exact False.elim hq
      | cont => exact False.elim hq
  show wpAny _ _ (richCompare .NotEq (.ref a) (.ref b)) _ _ s
  unfold richCompare
  simp only [oneThing_ref]
  refine wpAny_holding ?_
  refine wpAny_bind (wpAny_cRoomFor (Nat.lt_of_succ_lt hu) ?_)
  rw [cmpInfo_NotEq]
  dsimp only
  refine wpAny_bind (J.type.here ?_)
  refine wpAny_bind (J'.type.here ?_)
  rw [show (Value.ref C != Value.ref C) = false from by simp]
  simp only [Bool.false_eq_true, if_false]
  refine wpAny_bind (wpAny_pure ?_)
  simp only [Bool.false_eq_true, if_false]
  refine wpAny_bind ?_
  simp only [tryCompare]
  refine wpAny_bind (ifBound_objNe I.kIn J hn (wpAny_call (codeAny_call_builtin F.cmp_object.ne.plain F.cmpEntry_ne (PySem.W.check_slot F.cmpKind_ne F.cmpSplit_ne (J.type.andThen (PySem.W.looks_mroIn I.kIn hm)) (F.cmpArgs_ne _ _)
    (objNe_body (A := X.A.in1) hu I.kIn J he hf (wpAny_mono core (fun v s' hv => ?_) fun _ _ e => e))))))
  obtain ⟨r, rfl, hq⟩ := hv
  first | exact ⟨r, rfl, wpAny_pure (wpAny_pure hq)⟩ | exact ⟨r, rfl, wpAny_pure hq⟩ | exact ⟨r, rfl, hq⟩
end
end CP
/-! sorted(t), t a tuple: what is collected first, then as for a list -/
namespace CP
open PySem PySem.W PyProof.Rows L2
section
variable {prog : Program} {w : World} {A : Around} {E : Value → Shared → Prop} {s : Shared}
abbrev lst0 : Obj := seqObj "list" #[] 0
theorem gather_tup {t : Addr} {us : List Value} {R : List Value → Shared → Prop} (ht : s.heap.IsTuple t us.toArray) (few : us.length ≤ sizeLine)
    (k : R us { s with heap := (s.heap.push lst0).update s.heap.objs.size (Obj.mapSeq (· ++ us.toArray)) }) : wpAny (model prog w) A (collect (.ref t)) R E s := by
  obtain ⟨ot, g1, g2, m, g3⟩ := id ht
  unfold collect
  refine wpAny_bind (wpAny_runValue (codeAny_builtin entry_proto_collect' ?_))
  show wpAny _ _ (do PySem.again (.builtin "list.__iadd__" ⟨[← newList [], .ref t], []⟩)) _ _ s
  refine wpAny_bind (wpAny_newList (wpAny_pure ⟨Code.quiet_builtin _ (by decide +kernel), codeAny_builtin entry_list_iadd' ?_⟩))
  show wpAny _ _ (Builtin.List.listExtendWith (.ref s.heap.objs.size) (.ref t) (.ref s.heap.objs.size)) _ _ { s with heap := s.heap.push lst0 }
  unfold Builtin.List.listExtendWith
  have g1' : (s.heap.push lst0).get? t = some ot := Heap.get?_push_of_some _ g1
  refine wpAny_bind (wpAny_typeOf (T := "tuple") ⟨ot, g1', g2⟩ ?_)
  have tt : (Value.type "tuple" == Value.type "tuple") = true := by rfl
  rw [if_pos (by rw [tt]; simp)]
  refine wpAny_bind (listItems_at g1' g3 ?_)
  refine wpAny_bind (listItems_at (xs := #[]) (n := 0) (Heap.get?_push_size _ rfl) rfl ?_)
  rw [if_neg (by simp)]
  refine wpAny_bind (listUpdate_at (xs := #[]) (n := 0) (Heap.get?_push_size _ rfl) rfl ?_ (Nat.zero_le _) (by
    show (#[] ++ us.toArray).size ≤ sizeLine + 1
    simp only [Array.size_append, List.size_toArray, List.length_nil]; omega))
  refine wpAny_pure ?_
  refine wpAny_bind (wpAny_load (get?_update_seq (Heap.get?_push_size _ rfl) _) ?_)
  show wpAny _ _ (pure ((#[] : Array Value) ++ us.toArray).toList) R E _
  have e : ((#[] : Array Value) ++ us.toArray).toList = us := by simp
  rw [e]
  exact wpAny_pure k
end
section
variable {prog : Program} {w : World} {A : Around} {E : Value → Shared → Prop} {s : Shared} {β : Type} {enc : β → PyData} {R : Value → β → Prop} {vs : List Value} {bs : List β}
/-- sorted(t) of data -/
theorem sorted_dataT {l : Addr} {Q : Value → Shared → Prop} (hl : s.heap.IsTuple l vs.toArray) (e : EachIs R vs bs) (er : EachIs (fun v b => ∃ as, Reads s.heap v (enc b) as) vs bs) (hal : AllAlike (bs.map enc)) (hk : Sortable (bs.map enc)) (hL : bs.length ≤ sizeLine)
    (hu : ∀ b, b ∈ bs → A.units + 2 + (enc b).depth < cLine) (h : ∀ out, out.length = bs.length → EachIs R out (bs.mergeSort (dataLe false enc)) → Q (.ref (s.heap.objs.size + 1)) { s with heap := sortedAll s.heap vs (List.toArray out) }) : wpAny (model prog w) A (call (.builtin "sorted") [.ref l]) Q E s := by
  have er' : EachIs (fun v b => ∃ as, Reads (sortingHeap (copyHeap s.heap vs) (s.heap.objs.size + 1) vs) v (enc b) as) vs bs := er.mono fun _ _ ⟨as, r⟩ => ⟨as, Reads.keeps (fun _ _ => sorting_copy_old) r⟩
  have hV : vs.length ≤ sizeLine := by rw [e.length]; exact hL
  refine call_function_entry_kw kind_sorted plain_sorted entry_sorted (args_sorted1 _) ?_
  unfold Builtin.«sorted»
  refine wpAny_bind (m := checkCount "sorted" 1 1 _) (wpAny_pure ?_)
  refine wpAny_bind (gather_tup hl hV ?_)
  refine wpAny_bind (wpAny_newList ?_ hV)
  have z : ((s.heap.push lst0).update s.heap.objs.size (Obj.mapSeq (· ++ vs.toArray))).objs.size = s.heap.objs.size + 1 := by
    rw [Heap.size_update, size_push']
  show wpAny _ _ _ _ _ { s with heap := copyHeap s.heap vs }
  rw [z]
  have S := SortsAt.data (prog := prog) (w := w) (A := A.in1.in1) (s := { s with heap := sortingHeap (copyHeap s.heap vs) (s.heap.objs.size + 1) vs }) (each_map (R := fun v d => ∃ as, Reads (sortingHeap (copyHeap s.heap vs) (s.heap.objs.size + 1) vs) v d as) enc er') hal hk (bound_map hu)
  refine wpAny_bind (wpAny_holding (wpAny_call_entry_kw slot_list_sort ⟨_, copyHeap_at s.heap vs, rfl⟩ entry_list_sort (list_sort_vals (s := { s with heap := copyHeap s.heap vs }) (copyHeap_at s.heap vs) S hV ?_) (args_list_sort _)))
  exact ⟨_, rfl, wpAny_pure ⟨_, rfl, h _ (by rw [sortVals_length false rfl]; exact e.length) (sortVals_data false e er' hal)⟩⟩
end
end CP
namespace CP
open PySem L2
def top (i : Nat) : Stmt := PySem.Challenge.pw_crossparity_k57_records_of_subgraphs.main.body.getD i (.Pass ⟨0, 0, 0, 0⟩)
abbrev sSource : Stmt := top 27
abbrev sNext : Stmt := top 28
abbrev sOne : Stmt := top 29
abbrev sMixed : Stmt := top 30
abbrev sGraph : Stmt := top 31
/-- three ints at a: a source of choices -/
def Src (H : Hp) (a : Addr) : Prop := ∃ x y z : Int, H a = some (.lst [.int x, .int y, .int z])
/-- all that stood stands, but what is at a -/
def But (a : Addr) (H H' : Hp) : Prop := ∀ b o, b ≠ a → H b = some o → H' b = some o
theorem But.refl {a : Addr} {H : Hp} : But a H H := fun _ _ _ e => e
theorem But.trans {a : Addr} {H H1 H2 : Hp} (x : But a H H1) (y : But a H1 H2) : But a H H2 := fun b o n e => y b o n (x b o n e)
theorem But.upd {a : Addr} {H : Hp} {o : HO} : But a H (L2.upd H a o) := fun b u n e => by rw [upd_ne n]; exact e
theorem But.new {a p : Addr} {H : Hp} {o : HO} (h : H p = none) : But a H (L2.upd H p o) := fun b u _ e => by rw [upd_ne (ne_of_none e h)]; exact e
theorem But.of_same {a : Addr} {H H' : Hp} (h : Same H H') : But a H H' := fun b o _ e => h b o e

def spSource : Sp := fun vs H Q _ => ∃ c : Int, vs = [.int c] ∧ ∀ p H', H p = none → Src H' p → Same H H' → Q (.ref p) H'
def spNext : Sp := fun vs H Q _ => ∃ (a : Addr) (m : Int), vs = [.ref a, .int m] ∧ Src H a ∧ 0 < m ∧ m < 1000000 ∧ ∀ (r : Int) H', 0 ≤ r → r < m → Src H' a → But a H H' → Q (.int r) H'
section
variable {P : Program} {w : World} {K : PySem.W.Frag} {mg : Str → Option Value} {base : Heap}
theorem scSource : FnScope ["_law_cell"] ["_law_cell"] (defScope sSource) := ⟨rfl, rfl, rfl, by decide +kernel, rfl, by decide +kernel, by decide +kernel⟩
theorem ok_source {f : Addr} {fd : FuncData} (F : Fun K "_law_source_of" "_law_source_of" sSource f fd) (mint : mg "int" = none) : FnOk P w K mg base CX0 1 f fd ["_law_cell"] spSource := by
  refine F.ok scSource (fun vs H Q E h => ?_) (fun cdv A outer s H vs Q E hr h => ?_)
  · obtain ⟨c, rfl, _⟩ := h; rfl
  · obtain ⟨c, rfl, k⟩ := h
    refine ⟨_, pss_cons (ps_set (i := 0) scSource.nd rfl (Or.inl rfl) (pe_ifExp (pt_cmpR op_ge (pv 0) pe_int (nomark _)) (pv 0) (pe_op op_sub (pe_op op_sub pe_int (pe_op op_mul pe_int (pv 0))) pe_int)))
      (pss_one (ps_ret (pe_lst (pa_cons (pe_op op_mul (pv 0) (pe_callTy call_int1 (by rfl) mint (by decide +kernel) (pa_cons (pe_cmpR op_ge (pv 0) (pe_op op_pow pe_int pe_int) (nomark _)) pa_nil)))
        (pa_cons (pe_op op_mod (pv 0) pe_int) (pa_cons pe_int pa_nil)))))), ?_⟩
    refine ⟨_, rfl, _, _, rfl, rfl, _, rfl, ite2 (fun _ => ⟨_, rfl, ?_⟩) (fun _ => ⟨_, rfl, _, _, rfl, rfl, .inl ⟨by decide, by decide⟩, _, _, rfl, rfl, _, _, rfl, rfl, ?_⟩)⟩
    all_goals
      refine ⟨_, rfl, _, rfl, _, _, rfl, rfl, ⟨by decide, by decide, by decide⟩, _, _, rfl, rfl, .inr ⟨_, rfl, _, _, rfl, rfl, .inr ?_, _, rfl, _, _, rfl, rfl, (show (0 : Int) < 2147483647 by decide), by show 3 ≤ sizeLine; decide, fun p hp => ?_⟩⟩
      · split <;> decide
      · exact k p _ hp ⟨_, _, _, upd_same⟩ fun b o e => by rw [upd_ne (ne_of_none e hp)]; exact e
theorem scNext : FnScope ["_law_source", "_law_many", "_law_found", "_law_prime", "_law_number"] ["_law_source", "_law_many"] (defScope sNext) := ⟨rfl, rfl, rfl, by decide +kernel, rfl, by decide +kernel, by decide +kernel⟩
theorem small_mod (n m : Int) (h : 0 < m) (h2 : m ≤ 2147483647) : -(2 ^ 64) < n % m ∧ n % m < 2 ^ 64 := by
  have a := Int.emod_nonneg n (Int.ne_of_gt h)
  have b := Int.emod_lt_of_pos n h
  omega
theorem ok_next {f : Addr} {fd : FuncData} (F : Fun K "_law_next" "_law_next" sNext f fd) : FnOk P w K mg base CX0 1 f fd ["_law_source", "_law_many"] spNext := by
  refine F.ok scNext (fun vs H Q E h => ?_) (fun cdv A outer s H vs Q E hr h => ?_)
  · obtain ⟨a, m, rfl, _⟩ := h; rfl
  · obtain ⟨a, m, rfl, ⟨x, y, z, hS⟩, h0, h1, k⟩ := h
    refine ⟨_, pss_cons (ps_if (pt_cmpR op_gt (pe_ix ix_list (pv 0) pe_int (fun _ _ => rfl)) pe_int (nomark _))
        (pss_cons (ps_set (i := 2) scNext.nd rfl (Or.inl rfl) (pe_op op_mod (pe_ix ix_list (pv 0) pe_int (fun _ _ => rfl)) (pv 1)))
        (pss_cons (ps_asg (pe_op op_fdiv (pe_ix ix_list (pv 0) pe_int (fun _ _ => rfl)) (pv 1)) (pg_sub (pv 0) pe_int set_list))
        (pss_one (ps_ret (pv 2))))) pss_nil)
      (pss_cons (ps_asg (pe_op op_add (pe_ix ix_list (pv 0) pe_int (fun _ _ => rfl)) pe_int) (pg_sub (pv 0) pe_int set_list))
      (pss_cons (ps_set (i := 3) scNext.nd rfl (Or.inl rfl) pe_int)
      (pss_cons (ps_set (i := 4) scNext.nd rfl (Or.inl rfl) (pe_op op_mod (pe_op op_add (pe_op op_add (pe_ix ix_list (pv 0) pe_int (fun _ _ => rfl)) (pe_op op_mul pe_int (pe_ix ix_list (pv 0) pe_int (fun _ _ => rfl)))) pe_int) (pv 3)))
      (pss_cons (ps_set (i := 4) scNext.nd rfl (Or.inl rfl) (pe_op op_mod (pe_op op_mul (pv 4) pe_int) (pv 3)))
      (pss_cons (ps_set (i := 4) scNext.nd rfl (Or.inl rfl) (pe_op op_mod (pe_op op_mul (pv 4) (pe_op op_add (pe_op op_fdiv (pv 4) pe_int) pe_int)) (pv 3)))
      (pss_cons (ps_set (i := 4) scNext.nd rfl (Or.inl rfl) (pe_op op_mod (pe_op op_mul (pv 4) (pe_op op_add (pe_op op_fdiv (pv 4) pe_int) pe_int)) pe_int))
      (pss_one (ps_ret (pe_op op_mod (pe_op op_fdiv (pv 4) pe_int) (pv 1)))))))))), ?_⟩
    have i0 : ∀ {x y z : Int}, atI [V.int x, V.int y, V.int z] 0 = some (.int x) := rfl
    have i1 : ∀ {x y z : Int}, atI [V.int x, V.int y, V.int z] 1 = some (.int y) := rfl
    have i2 : ∀ {x y z : Int}, atI [V.int x, V.int y, V.int z] 2 = some (.int z) := rfl
    refine ⟨_, rfl, a, _, _, _, rfl, rfl, SqL.of hS, i0, _, _, rfl, rfl, _, rfl, ite2 (fun _ => ?_) (fun _ => ?_)⟩
    · refine ⟨_, rfl, a, _, _, _, rfl, rfl, SqL.of hS, i0, _, rfl, _, _, rfl, rfl, h0, ?_⟩
      refine ⟨_, rfl, a, _, _, _, rfl, rfl, SqL.of hS, i0, _, rfl, _, _, rfl, rfl, ⟨h0, by omega⟩, _, rfl, a, _, _, 0, rfl, rfl, hS, rfl, _, rfl, ?_⟩
      exact k _ _ (Int.emod_nonneg _ (by omega)) (Int.emod_lt_of_pos _ h0) ⟨_, _, _, upd_same⟩ But.upd
    · refine ⟨_, rfl, a, _, _, _, rfl, rfl, SqL.of hS, i2, _, _, rfl, rfl, _, rfl, a, _, _, 2, rfl, rfl, hS, rfl, ?_⟩
      refine ⟨_, rfl, a, _, _, _, rfl, rfl, SqL.of upd_same, i1, _, rfl, a, _, _, _, rfl, rfl, SqL.of upd_same, i2, _, _, rfl, rfl, .inl ⟨by decide, by decide⟩, _, _, rfl, rfl, _, _, rfl, rfl, _, rfl, _, _, rfl, rfl, (show (0 : Int) < 2147483647 by decide), ?_⟩
      refine ⟨_, rfl, _, _, rfl, rfl, .inr ⟨by decide, by decide⟩, _, rfl, _, _, rfl, rfl, (show (0 : Int) < 2147483647 by decide), ?_⟩
      refine ⟨_, rfl, _, rfl, _, _, rfl, rfl, ⟨by decide, by decide⟩, _, _, rfl, rfl, _, _, rfl, rfl, .inl (small_mod _ _ (by decide) (by decide)), _, rfl, _, _, rfl, rfl, (show (0 : Int) < 2147483647 by decide), ?_⟩
      refine ⟨_, rfl, _, rfl, _, _, rfl, rfl, ⟨by decide, by decide⟩, _, _, rfl, rfl, _, _, rfl, rfl, .inl (small_mod _ _ (by decide) (by decide)), _, _, rfl, rfl, (show (0 : Int) < 2147483399 by decide), ?_⟩
      refine ⟨_, rfl, _, _, rfl, rfl, ⟨by decide, by decide⟩, _, rfl, _, _, rfl, rfl, h0, ?_⟩
      exact k _ _ (Int.emod_nonneg _ (by omega)) (Int.emod_lt_of_pos _ h0) ⟨_, _, _, upd_same⟩ But.upd
end
end CP
namespace CP
open PySem L2
def spOne (K : PySem.W.Frag) : Sp := fun vs H Q _ => ∃ (a b : Addr) (xs : List V), vs = [.ref a, .ref b] ∧ Src H a ∧ a ≠ b ∧ SqL K H b xs ∧ H b = some (.lst xs) ∧ 0 < xs.length ∧ xs.length < 100000 ∧
  ∀ x H', x ∈ xs → Src H' a → But a H H' → Q x H'
mutual
/-- a text, or a tracked tuple of such -/
inductive Tp (H : Hp) : V → PyData → Prop
  | str {z : Str} : PyData.strOk z = true → Tp H (.str z) (.str z)
  | tup {p : Addr} {xs : List V} {ds : List PyData} : H p = some (.tup xs) → TpAll H xs ds → Tp H (.ref p) (.tuple ds)
inductive TpAll (H : Hp) : List V → List PyData → Prop
  | nil : TpAll H [] []
  | cons {v : V} {vs : List V} {d : PyData} {ds : List PyData} : Tp H v d → TpAll H vs ds → TpAll H (v :: vs) (d :: ds)
end
def Item (H : Hp) (x : V) : Prop := ∃ d, Tp H x d ∧ d.depth ≤ 3
def spMixed (K : PySem.W.Frag) : Sp := fun vs H Q _ => ∃ (a b : Addr) (xs : List V), vs = [.ref a, .ref b] ∧ Src H a ∧ a ≠ b ∧ H b = some (.lst xs) ∧ (∀ x ∈ xs, Item H x) ∧ xs.length < 100000 ∧
  ∀ p ys H', ys.Perm xs → H p = none → H' p = some (.lst ys) → Src H' a → But a H H' → Q (.ref p) H'
section
variable {P : Program} {w : World} {K : PySem.W.Frag} {mg : Str → Option Value} {base : Heap}
theorem scOne : FnScope ["_law_source", "_law_some"] ["_law_source", "_law_some"] (defScope sOne) := ⟨rfl, rfl, rfl, by decide +kernel, rfl, by decide +kernel, by decide +kernel⟩
theorem ok_one {f fN : Addr} {fd fdN : FuncData} (F : Fun K "_law_one" "_law_one" sOne f fd) (mlen : mg "len" = none) (mN : mg "_law_next" = some (.ref fN)) (FN : Fun K "_law_next" "_law_next" sNext fN fdN) (bN : Binds K fdN ["_law_source", "_law_many"] []) :
    FnOk P w K mg base CX0 2 f fd ["_law_source", "_law_some"] (spOne K) := by
  have GN : FnOk P w K mg base CX0 1 fN fdN ["_law_source", "_law_many"] spNext := ok_next FN
  refine F.ok scOne (fun vs H Q E h => ?_) (fun cdv A outer s H vs Q E hr h => ?_)
  · obtain ⟨a, b, xs, rfl, _⟩ := h; rfl
  · obtain ⟨a, b, xs, rfl, hS, ab, hB, hB2, h0, h1, k⟩ := h
    refine ⟨_, pss_one (ps_ret (pe_ix ix_list (pv 1) (pe_call GN hr rfl mN FN.kp bN .nil pass0 (pa_cons (pv 0) (pa_cons (pe_callB call_len_seq (by rfl) mlen PySem.boot_len (pa_cons (pv 1) pa_nil)) pa_nil))) (fun _ _ => rfl))), ?_⟩
    refine ⟨_, rfl, _, rfl, _, rfl, b, _, rfl, .inl hB, a, _, rfl, hS, by omega, by omega, fun r H' r0 r1 S' B' => ?_⟩
    obtain ⟨j, rfl⟩ : ∃ j : Nat, r = j := ⟨r.toNat, by omega⟩
    have hj : j < xs.length := by omega
    exact ⟨b, xs, _, _, rfl, rfl, SqL.of (B' b _ ab.symm hB2), atI_nat (List.getElem?_eq_getElem hj), k _ _ (List.getElem_mem hj) S' B'⟩
theorem scMixed : FnScope ["_law_source", "_law_some", "_law_left", "_law_found"] ["_law_source", "_law_some"] (defScope sMixed) := ⟨rfl, rfl, rfl, by decide +kernel, rfl, by decide +kernel, by decide +kernel⟩
theorem erase_perm {α : Type} : ∀ {l : List α} {k : Nat} {y : α}, l[k]? = some y → (y :: l.eraseIdx k).Perm l
  | [], _, _, h => by simp at h
  | a :: l, 0, y, h => by
    obtain rfl : a = y := Option.some.inj h
    exact List.Perm.refl _
  | a :: l, k + 1, y, h => by
    have ih := erase_perm (l := l) (k := k) (y := y) h
    show (y :: a :: l.eraseIdx k).Perm (a :: l)
    exact (List.Perm.swap a y _).trans (ih.cons a)
mutual
theorem Tp.map {H H' : Hp} (s : ∀ p xs, H p = some (.tup xs) → H' p = some (.tup xs)) : ∀ {x : V} {d : PyData}, Tp H x d → Tp H' x d
  | _, _, .str h => .str h
  | _, _, .tup h a => .tup (s _ _ h) (TpAll.map s a)
theorem TpAll.map {H H' : Hp} (s : ∀ p xs, H p = some (.tup xs) → H' p = some (.tup xs)) : ∀ {xs : List V} {ds : List PyData}, TpAll H xs ds → TpAll H' xs ds
  | _, _, .nil => .nil
  | _, _, .cons h t => .cons (h.map s) (t.map s)
end
mutual
theorem Tp.dp {H : Hp} : ∀ {x : V} {d : PyData}, Tp H x d → Dp K H x d
  | _, _, .str _ => .str _
  | _, _, .tup h a => .tup (SqT.of h) (TpAll.dp a)
theorem TpAll.dp {H : Hp} : ∀ {xs : List V} {ds : List PyData}, TpAll H xs ds → DpAll K H xs ds
  | _, _, .nil => .nil
  | _, _, .cons h t => .cons h.dp t.dp
end
mutual
theorem Tp.lay {H : Hp} : ∀ {x : V} {d : PyData}, Tp H x d → d.canLay0 = true
  | _, _, .str o => by simp [PyData.canLay0, o]
  | _, _, .tup _ a => by simp [PyData.canLay0, TpAll.lay a]
theorem TpAll.lay {H : Hp} : ∀ {xs : List V} {ds : List PyData}, TpAll H xs ds → PyData.canLayAll0 ds = true
  | _, _, .nil => by simp [PyData.canLayAll0]
  | _, _, .cons h t => by simp [PyData.canLayAll0, h.lay, t.lay]
end
theorem Item.but {H H' : Hp} {a : Addr} {x : V} (S : Src H a) (B : But a H H') (h : Item H x) : Item H' x := by
  obtain ⟨d, t, e⟩ := h
  obtain ⟨x1, y1, z1, S⟩ := S
  exact ⟨d, t.map fun p xs q => B p _ (ne_of q S (fun z => by cases z)) q, e⟩
theorem Item.dp {H : Hp} {x : V} (h : Item H x) : ∃ d, Dp K H x d ∧ d.canLay0 = true ∧ d.depth ≤ 3 := by
  obtain ⟨d, t, e⟩ := h
  exact ⟨d, t.dp, t.lay, e⟩
theorem Item.txt {H : Hp} {z : Str} (o : PyData.strOk z = true) : Item H (.str z) := ⟨_, .str o, by simp [PyData.depth]⟩
theorem Item.edge {H : Hp} {p : Addr} {u v : Str} (h : H p = some (.tup [.str u, .str v])) (o1 : PyData.strOk u = true) (o2 : PyData.strOk v = true) : Item H (.ref p) := ⟨_, .tup h (.cons (.str o1) (.cons (.str o2) .nil)), by simp [PyData.depth, PyData.depthAll]⟩
theorem items_dp {H : Hp} : ∀ {xs : List V}, (∀ x ∈ xs, Item H x) → ∃ ds, DpAll K H xs ds ∧ ds.length = xs.length ∧ PyData.canLayAll0 ds = true ∧ PyData.depthAll ds ≤ 3
  | [], _ => ⟨[], .nil, rfl, by simp [PyData.canLayAll0], by simp [PyData.depthAll]⟩
  | x :: xs, h => by
    obtain ⟨d, d1, d2, d3⟩ := (h x List.mem_cons_self).dp (K := K)
    obtain ⟨ds, e1, e2, e3, e4⟩ := items_dp (xs := xs) fun y hy => h y (List.mem_cons_of_mem _ hy)
    refine ⟨d :: ds, .cons d1 e1, by simp [e2], by simp [PyData.canLayAll0, d2, e3], ?_⟩
    simp only [PyData.depthAll]; omega
theorem eqv_nil {ds : List PyData} : PyData.eqv (.list ds) (.list []) = decide (ds = []) := by
  cases ds <;> simp [PyData.eqv, PyData.eqvAll]
theorem ok_mixed {f fN : Addr} {fd fdN : FuncData} (F : Fun K "_law_mixed" "_law_mixed" sMixed f fd) (mlen : mg "len" = none) (mlist : mg "list" = none) (mN : mg "_law_next" = some (.ref fN)) (FN : Fun K "_law_next" "_law_next" sNext fN fdN) (bN : Binds K fdN ["_law_source", "_law_many"] []) :
    FnOk P w K mg base CX0 2 f fd ["_law_source", "_law_some"] (spMixed K) := by
  have GN : FnOk P w K mg base CX0 1 fN fdN ["_law_source", "_law_many"] spNext := ok_next FN
  refine F.ok scMixed (fun vs H Q E h => ?_) (fun cdv A outer s H vs Q E hr h => ?_)
  · obtain ⟨a, b, xs, rfl, _⟩ := h; rfl
  · obtain ⟨a, b, xs, rfl, hS, ab, hB, hI, h1, k⟩ := h
    have hu := hu_of hr
    refine ⟨_, pss_cons (ps_set (i := 2) scMixed.nd rfl (Or.inl rfl) (pe_callTy call_list_of (by rfl) mlist (by decide +kernel) (pa_cons (pv 1) pa_nil)))
      (pss_cons (ps_set (i := 3) scMixed.nd rfl (Or.inl rfl) (pe_lst pa_nil))
      (pss_cons (ps_while PassesOwn.never (pt_cmpR (op_neD hr.units) (pv 2) (pe_lst pa_nil) (nomark _))
        (pss_one (ps_expr (pe_bm PySem.F.plainAttrs_list PySem.F.slot_list_append PySem.F.type_list_append mt_append (pv 3) (pa_cons (pe_bm PySem.F.plainAttrs_list PySem.F.slot_list_pop PySem.F.type_list_pop mt_popAt (pv 2)
          (pa_cons (pe_call GN hr rfl mN FN.kp bN .nil pass0 (pa_cons (pv 0) (pa_cons (pe_callB call_len_seq (by rfl) mlen PySem.boot_len (pa_cons (pv 2) pa_nil)) pa_nil))) pa_nil)) pa_nil)))))
      (pss_one (ps_ret (pv 3))))), ?_⟩
    refine ⟨_, rfl, b, _, rfl, .inl (SqL.of hB), fun l hl => ?_⟩
    refine ⟨by show 0 ≤ sizeLine; decide, fun p hp => ?_⟩
    have S0 := hS
    obtain ⟨x0, y0, z0, hS0⟩ := hS
    have al : a ≠ l := ne_of_none hS0 hl
    have hl1 : L2.upd H l (.lst xs) l = some (.lst xs) := upd_same
    have ap : a ≠ p := ne_of_none (show L2.upd H l (.lst xs) a = some _ by rw [upd_ne al]; exact hS0) hp
    have lp : l ≠ p := ne_of_none hl1 hp
    have hp0 : H p = none := by rw [upd_ne lp.symm] at hp; exact hp
    have s1 : Same H (L2.upd (L2.upd H l (.lst xs)) p (.lst [])) := fun c o e => by
      rw [upd_ne (ne_of_none e hp0), upd_ne (ne_of_none e hl)]; exact e
    refine while_by (fun σ H' => ∃ left found, σ = [some (.ref a), some (.ref b), some (.ref l), some (.ref p)] ∧ H' l = some (.lst left) ∧ H' p = some (.lst found) ∧ (left ++ found).Perm xs ∧ Src H' a ∧ But a H H')
      (fun _ H' => match H' l with | some (.lst ys) => ys.length | _ => 0) ?_ ?_ ?_
    · exact ⟨xs, [], rfl, by rw [upd_ne lp]; exact upd_same, upd_same, by simp, ⟨x0, y0, z0, s1 _ _ hS0⟩, But.of_same s1⟩
    · rintro σ H' ⟨left, found, rfl, e1, e2, pm, S', B'⟩
      have lenx : left.length + found.length = xs.length := by have := pm.length_eq; rw [List.length_append] at this; exact this
      have each : ∀ x ∈ left, Item H' x := fun x hx => (hI x (pm.mem_iff.mp (List.mem_append_left _ hx))).but S0 B'
      refine ⟨_, rfl, by show 0 ≤ sizeLine; decide, fun q hq => ?_⟩
      have nq : ∀ {c : Addr} {o : HO}, H' c = some o → L2.upd H' q (.lst []) c = some o := fun e => by rw [upd_ne (ne_of_none e hq)]; exact e
      have each2 : ∀ x ∈ left, Item (L2.upd H' q (.lst [])) x := fun x hx => (each x hx).but S' (But.new hq)
      obtain ⟨ds, d1, d2, d3, d4⟩ := items_dp (K := K) each2
      refine ⟨.list ds, .list [], .lst (SqL.of (nq e1)) d1, .lst (SqL.of upd_same) .nil, ?_, by decide, _, rfl, ?_⟩
      · have c1 : (PyData.list ds).canLay0 = true := by simp [PyData.canLay0, d3]
        have c2 : (PyData.list ds).depth = PyData.depthAll ds + 1 := by first | rfl | simp [PyData.depth, Nat.add_comm]
        unfold SeqAt.shaped; rw [c1, c2]; simp; omega
      rw [eqv_nil]
      cases left with
      | nil =>
        have : ds = [] := by cases ds with | nil => rfl | cons _ _ => simp at d2
        subst this
        refine iteF ⟨_, rfl, ?_⟩
        refine k p found _ (by simpa using pm) hp0 (nq e2) ?_ (B'.trans (But.new hq))
        obtain ⟨x1, y1, z1, S'⟩ := S'
        exact ⟨x1, y1, z1, nq S'⟩
      | cons y0 left =>
        have : ds ≠ [] := by intro e; rw [e] at d2; simp at d2
        rw [decide_eq_false this]
        refine iteT ?_
        refine ⟨_, rfl, .inl ⟨rfl, _, SqL.of (nq e2)⟩, _, rfl, .inl ⟨rfl, _, SqL.of (nq e1)⟩, _, rfl, _, rfl, l, _, rfl, .inl (SqL.of (nq e1)), a, _, rfl, ?_, by first | (simp; done) | (simp; omega), by simp at lenx ⊢; omega, fun r H2 r0 r1 S2 B2 => ?_⟩
        · obtain ⟨x1, y1, z1, S'⟩ := S'
          exact ⟨x1, y1, z1, nq S'⟩
        obtain ⟨j, rfl⟩ : ∃ j : Nat, r = j := ⟨r.toNat, by omega⟩
        have hj : j < (y0 :: left).length := by simp at r1 ⊢; omega
        have e1' := B2 l _ al.symm (nq e1)
        have e2' := B2 p _ ap.symm (nq e2)
        refine ⟨l, _, _, j, _, rfl, rfl, e1', by omega, by simp at hj lenx; omega, seqIndex_of (by omega) (by omega), List.getElem?_eq_getElem hj, ?_⟩
        have e2'' : L2.upd H2 l (.lst ((y0 :: left).eraseIdx j)) p = some (.lst found) := by rw [upd_ne lp.symm]; exact e2'
        refine ⟨p, _, _, rfl, rfl, e2'', by rw [sizeLine_eq]; simp at lenx; omega, ?_⟩
        have pe := erase_perm (List.getElem?_eq_getElem hj)
        obtain ⟨x2, y2, z2, S2⟩ := S2
        refine ⟨⟨(y0 :: left).eraseIdx j, found ++ [(y0 :: left)[j]], rfl, by rw [upd_ne lp]; exact upd_same, upd_same, ?_, ⟨x2, y2, z2, by rw [upd_ne ap, upd_ne al]; exact S2⟩, fun c o n e => ?_⟩, ?_⟩
        · refine List.Perm.trans ?_ pm
          have q1 : ((y0 :: left).eraseIdx j ++ (found ++ [(y0 :: left)[j]])).Perm ((y0 :: left)[j] :: (y0 :: left).eraseIdx j ++ found) := by
            rw [← List.append_assoc]
            exact (List.perm_append_comm).trans (List.Perm.refl _)
          exact q1.trans (pe.append_right found)
        · rw [upd_ne (ne_of_none e hp0), upd_ne (ne_of_none e hl)]
          exact B2 c o n (nq (B' c o n e))
        · show (match L2.upd (L2.upd H2 l _) p _ l with | some (.lst ys) => ys.length | _ => 0) < (match H' l with | some (.lst ys) => ys.length | _ => 0)
          rw [upd_ne lp, upd_same, e1]
          show ((y0 :: left).eraseIdx j).length < (y0 :: left).length
          rw [List.length_eraseIdx_of_lt hj]; simp
    · rintro σ H' Q1 Q2 m ⟨v, ev, hz, q⟩
      exact ⟨v, ev, hz, fun p hp => let ⟨d, e, c1, c2, c3, c4, kk, ek, q⟩ := q p hp; ⟨d, e, c1, c2, c3, c4, kk, ek, m _ _ q⟩⟩
end
end CP
namespace CP
open PySem L2
abbrev sInit : Stmt := inClass (top 11) 0
abbrev sApart : Stmt := top 12
abbrev sRow : Stmt := top 13
abbrev sCouple : Stmt := top 14
abbrev sName : Stmt := top 15
abbrev sVerts : Stmt := top 16
abbrev sEdges : Stmt := top 17
abbrev sAmong : Stmt := top 18
abbrev sJoins : Stmt := top 19
/-- u < v as Python compares texts -/
def ltS (u v : Str) : Bool := decide (u.cps.toList < v.cps.toList)
def spRow : Sp := fun vs H Q _ => ∃ (a : Addr) (xs : List V), vs = [.ref a] ∧ (H a = some (.lst xs) ∨ H a = some (.tup xs)) ∧ ∀ H', Same H H' → Q (.bl true) H'
def spCouple : Sp := fun vs H Q _ => ∃ (a : Addr) (x y : V), vs = [.ref a] ∧ H a = some (.tup [x, y]) ∧ Q (.bl true) H
def spAmong (K : PySem.W.Frag) : Sp := fun vs H Q _ => ∃ (a : Addr) (ns : List Str) (z : Str), vs = [.ref a, .str z] ∧ (SqL K H a (ns.map V.str) ∨ SqT K H a (ns.map V.str)) ∧ Q (.bl (decide (z ∈ ns))) H
def spJoins (K : PySem.W.Frag) : Sp := fun vs H Q _ => ∃ (a p : Addr) (ns : List Str) (u v : Str), vs = [.ref a, .ref p] ∧ (SqL K H a (ns.map V.str) ∨ SqT K H a (ns.map V.str)) ∧ H p = some (.tup [.str u, .str v]) ∧ Q (.bl (decide (u ∈ ns) && (decide (v ∈ ns) && ltS u v))) H
def spApart : Sp := fun vs H Q _ => ∃ (p q : Addr) (u v x y : Str), vs = [.ref p, .ref q] ∧ H p = some (.tup [.str u, .str v]) ∧ H q = some (.tup [.str x, .str y]) ∧ Q (.bl (decide (u ≠ x ∧ u ≠ y ∧ v ≠ x ∧ v ≠ y))) H
section
variable {P : Program} {w : World} {K : PySem.W.Frag} {mg : Str → Option Value} {base : Heap}
theorem kit2 {K : PySem.W.Frag} {t : String} (h : t = "list" ∨ t = "tuple") : PySem.W.kitAny K (.type t) [.type "list", .type "tuple"] = some true := by
  rcases h with rfl | rfl
  · exact kitAny_cons (kit_ty (b := "list") (r := true) (by decide +kernel)) (fun z => nomatch z) (fun _ => rfl)
  · exact kitAny_cons (kit_ty (b := "list") (r := false) (by decide +kernel)) (fun _ => kitAny_cons (kit_ty (b := "tuple") (r := true) (by decide +kernel)) (fun z => nomatch z) (fun _ => rfl)) (fun z => nomatch z)
theorem scRow : FnScope ["value"] ["value"] (defScope sRow) := ⟨rfl, rfl, rfl, by decide +kernel, rfl, by decide +kernel, by decide +kernel⟩
theorem ok_row {f : Addr} {fd : FuncData} (F : Fun K "is_row" "is_row" sRow f fd) (mi : mg "isinstance" = none) (ml : mg "list" = none) (mt : mg "tuple" = none) : FnOk P w K mg base CX0 1 f fd ["value"] spRow := by
  refine F.ok scRow (fun vs H Q E h => ?_) (fun cdv A outer s H vs Q E hr h => ?_)
  · obtain ⟨a, xs, rfl, _⟩ := h; rfl
  · obtain ⟨a, xs, rfl, hA, k⟩ := h
    refine ⟨_, pss_one (ps_ret (pe_callB call_isiT (by rfl) mi (by decide +kernel) (pa_cons (pv 0) (pa_cons (pe_tup (pa_cons (pe_bltn (v := .ty "list") (by rfl) ml (by decide +kernel) rfl) (pa_cons (pe_bltn (v := .ty "tuple") (by rfl) mt (by decide +kernel) rfl) pa_nil))) pa_nil)))), ?_⟩
    refine ⟨_, rfl, by show 2 ≤ sizeLine; decide, fun t ht => ?_⟩
    have s1 : Same H (L2.upd H t (.tup [.ty "list", .ty "tuple"])) := fun c o e => by rw [upd_ne (ne_of_none e ht)]; exact e
    rcases hA with hA | hA
    · exact ⟨_, t, _, .type "list", _, true, rfl, upd_same, .cons (.ty _) (.cons (.ty _) .nil), .base (.lst (s1 _ _ hA)), kit2 (.inl rfl), k _ s1⟩
    · exact ⟨_, t, _, .type "tuple", _, true, rfl, upd_same, .cons (.ty _) (.cons (.ty _) .nil), .base (.tup (s1 _ _ hA)), kit2 (.inr rfl), k _ s1⟩
theorem scCouple : FnScope ["value"] ["value"] (defScope sCouple) := ⟨rfl, rfl, rfl, by decide +kernel, rfl, by decide +kernel, by decide +kernel⟩
theorem ok_couple {f : Addr} {fd : FuncData} (F : Fun K "is_couple" "is_couple" sCouple f fd) (mi : mg "isinstance" = none) (ml : mg "len" = none) (mt : mg "tuple" = none) : FnOk P w K mg base CX0 1 f fd ["value"] spCouple := by
  refine F.ok scCouple (fun vs H Q E h => ?_) (fun cdv A outer s H vs Q E hr h => ?_)
  · obtain ⟨a, x, y, rfl, _⟩ := h; rfl
  · obtain ⟨a, x, y, rfl, hA, k⟩ := h
    refine ⟨_, pss_one (ps_ret (pe_and (pe_callB call_isi (by rfl) mi (by decide +kernel) (pa_cons (pv 0) (pa_cons (pe_bltn (v := .ty "tuple") (by rfl) mt (by decide +kernel) rfl) pa_nil)))
      (pe_one (pe_cmpR op_eq (pe_callB call_len_seq (by rfl) ml PySem.boot_len (pa_cons (pv 0) pa_nil)) pe_int (nomark _))))), ?_⟩
    refine ⟨_, rfl, _, _, .type "tuple", _, true, rfl, .ty _, .base (.tup hA), kit_ty (by decide +kernel), _, rfl, iteT ?_⟩
    refine ⟨_, rfl, a, _, rfl, .inr (SqT.of hA), rfl, ?_⟩
    exact k
theorem scAmong : FnScope ["vertices", "value"] ["vertices", "value"] (defScope sAmong) := ⟨rfl, rfl, rfl, by decide +kernel, rfl, by decide +kernel, by decide +kernel⟩
theorem inV_txt (z : Str) (ns : List Str) : inV (.str z) (ns.map V.str) = decide (z ∈ ns) := by
  have e : inV (.str z) (ns.map V.str) = ns.any (fun n => n == z) := by
    unfold inV; rw [List.any_map]; rfl
  rw [e]
  by_cases c : z ∈ ns
  · rw [decide_eq_true c]; exact List.any_eq_true.mpr ⟨z, c, by simp⟩
  · rw [decide_eq_false c]
    cases h : ns.any (fun n => n == z) with
    | false => rfl
    | true =>
      obtain ⟨n, hn, q⟩ := List.any_eq_true.mp h
      exact absurd (by have := beq_iff_eq.mp q; rw [this] at hn; exact hn) c
theorem flat_txt (ns : List Str) : (ns.map V.str).all flatV = true := by simp [List.all_eq_true, flatV]
theorem ok_among {f : Addr} {fd : FuncData} (F : Fun K "is_among" "is_among" sAmong f fd) (mi : mg "isinstance" = none) (ms : mg "str" = none) : FnOk P w K mg base CX0 1 f fd ["vertices", "value"] (spAmong K) := by
  refine F.ok scAmong (fun vs H Q E h => ?_) (fun cdv A outer s H vs Q E hr h => ?_)
  · obtain ⟨a, ns, z, rfl, _⟩ := h; rfl
  · obtain ⟨a, ns, z, rfl, hA, k⟩ := h
    refine ⟨_, pss_one (ps_ret (pe_and (pe_callB call_isi (by rfl) mi (by decide +kernel) (pa_cons (pv 1) (pa_cons (pe_bltn (v := .ty "str") (by rfl) ms (by decide +kernel) rfl) pa_nil))) (pe_one (pe_cmpR op_in_seq (pv 1) (pv 0) rfl)))), ?_⟩
    refine ⟨_, rfl, _, _, .type "str", _, true, rfl, .ty _, .base (.str z), kit_ty (by decide +kernel), _, rfl, iteT ?_⟩
    refine ⟨_, rfl, _, rfl, a, _, rfl, hA, rfl, flat_txt ns, ?_⟩
    rw [inV_txt]; exact k
theorem scJoins : FnScope ["vertices", "value", "low", "high"] ["vertices", "value"] (defScope sJoins) := ⟨rfl, rfl, rfl, by decide +kernel, rfl, by decide +kernel, by decide +kernel⟩
theorem ok_joins {f fC fA : Addr} {fd fdC fdA : FuncData} (F : Fun K "joins" "joins" sJoins f fd) (mC : mg "is_couple" = some (.ref fC)) (FC : FnOk P w K mg base CX0 1 fC fdC ["value"] spCouple) (kC : PySem.W.keepIn K (.ref fC) = true) (bC : Binds K fdC ["value"] [])
    (mA : mg "is_among" = some (.ref fA)) (FA : FnOk P w K mg base CX0 1 fA fdA ["vertices", "value"] (spAmong K)) (kA : PySem.W.keepIn K (.ref fA) = true) (bA : Binds K fdA ["vertices", "value"] []) : FnOk P w K mg base CX0 2 f fd ["vertices", "value"] (spJoins K) := by
  refine F.ok scJoins (fun vs H Q E h => ?_) (fun cdv A outer s H vs Q E hr h => ?_)
  · obtain ⟨a, p, ns, u, v, rfl, _⟩ := h; rfl
  · obtain ⟨a, p, ns, u, v, rfl, hA, hP, k⟩ := h
    refine ⟨_, pss_cons (ps_if (pt_not (pt_val (pe_call FC hr rfl mC kC bC .nil pass0 (pa_cons (pv 1) pa_nil)))) (pss_one (ps_ret pe_bl)) pss_nil)
      (pss_cons (ps_asg (pv 1) (pg_tup rfl (pgs_cons (pg_name (i := 2) scJoins.nd rfl (Or.inl rfl)) (pgs_cons (pg_name (i := 3) scJoins.nd rfl (Or.inl rfl)) pgs_nil))))
      (pss_one (ps_ret (pe_and (pe_call FA hr rfl mA kA bA .nil pass0 (pa_cons (pv 0) (pa_cons (pv 2) pa_nil))) (pe_and (pe_call FA hr rfl mA kA bA .nil pass0 (pa_cons (pv 0) (pa_cons (pv 3) pa_nil))) (pe_one (pe_cmpR op_lt_str (pv 2) (pv 3) (nomark _)))))))), ?_⟩
    refine ⟨_, rfl, p, _, _, rfl, hP, _, rfl, iteF ?_⟩
    refine ⟨_, rfl, p, _, rfl, SqT.of hP, rfl, _, _, rfl, _, _, rfl, rfl, ?_⟩
    refine ⟨_, rfl, _, rfl, a, ns, u, rfl, hA, _, rfl, ?_⟩
    by_cases c1 : u ∈ ns
    · rw [decide_eq_true c1] at k ⊢
      refine iteT ⟨_, rfl, _, rfl, a, ns, v, rfl, hA, _, rfl, ?_⟩
      by_cases c2 : v ∈ ns
      · rw [decide_eq_true c2] at k ⊢
        exact iteT ⟨_, rfl, _, rfl, _, _, rfl, rfl, k⟩
      · rw [decide_eq_false c2] at k ⊢
        exact iteF k
    · rw [decide_eq_false c1] at k ⊢
      exact iteF k
theorem scApart : FnScope ["one", "other"] ["one", "other"] (defScope sApart) := ⟨rfl, rfl, rfl, by decide +kernel, rfl, by decide +kernel, by decide +kernel⟩
theorem ok_apart {f : Addr} {fd : FuncData} (F : Fun K "are_apart" "are_apart" sApart f fd) : FnOk P w K mg base CX0 1 f fd ["one", "other"] spApart := by
  refine F.ok scApart (fun vs H Q E h => ?_) (fun cdv A outer s H vs Q E hr h => ?_)
  · obtain ⟨p, q, u, v, x, y, rfl, _⟩ := h; rfl
  · obtain ⟨p, q, u, v, x, y, rfl, hP, hQ, k⟩ := h
    refine ⟨_, pss_one (ps_ret (pe_and (pe_cmpR op_notIn_seq (pe_ix ix_tup (pv 0) pe_int (fun _ _ => rfl)) (pv 1) rfl) (pe_one (pe_cmpR op_notIn_seq (pe_ix ix_tup (pv 0) pe_int (fun _ _ => rfl)) (pv 1) rfl)))), ?_⟩
    have two : ∀ z : Str, inV (.str z) [.str x, .str y] = decide (z ∈ [x, y]) := fun z => inV_txt z [x, y]
    refine ⟨_, rfl, p, _, _, _, rfl, rfl, SqT.of hP, (atI_nat (j := 0) rfl), _, rfl, q, _, rfl, .inr (SqT.of hQ), rfl, rfl, _, rfl, ?_⟩
    show if (!inV (.str u) [.str x, .str y]) = true then _ else _
    rw [two]
    by_cases c1 : u ∈ [x, y]
    · rw [decide_eq_true c1]
      refine iteF ?_
      have e : decide (u ≠ x ∧ u ≠ y ∧ v ≠ x ∧ v ≠ y) = false := decide_eq_false fun z => by simp at c1; rcases c1 with c | c <;> simp_all
      rw [e] at k; exact k
    · rw [decide_eq_false c1]
      refine iteT ⟨_, rfl, p, _, _, _, rfl, rfl, SqT.of hP, (atI_nat (j := 1) rfl), _, rfl, q, _, rfl, .inr (SqT.of hQ), rfl, rfl, ?_⟩
      show Q (.bl (!inV (.str v) [.str x, .str y])) _
      rw [two]
      have e : decide (u ≠ x ∧ u ≠ y ∧ v ≠ x ∧ v ≠ y) = !decide (v ∈ [x, y]) := by
        simp only [List.mem_cons, List.not_mem_nil, or_false, not_or] at c1 ⊢
        by_cases c2 : v = x <;> by_cases c3 : v = y <;> simp [c1, c2, c3]
      rw [e] at k; exact k
end
end CP
/-! rows (lists or tuples) walked -/
namespace CP
open PySem PySem.Spec PyProof.Rows L2
def RowAt (H : Hp) (a : Addr) (xs : List V) : Prop := H a = some (.lst xs) ∨ H a = some (.tup xs)
theorem RowAt.same {H H' : Hp} {a : Addr} {xs : List V} (h : RowAt H a xs) (s : Same H H') : RowAt H' a xs := h.imp (s _ _) (s _ _)
theorem RowAt.eq {H H' : Hp} {a : Addr} {xs : List V} (h : RowAt H a xs) (s : Same H H') : H' a = H a := by
  rcases h with h | h <;> rw [h, s _ _ h]
theorem RowAt.sq {K : PySem.W.Frag} {H : Hp} {a : Addr} {xs : List V} (h : RowAt H a xs) : SqL K H a xs ∨ SqT K H a xs := h.imp SqL.of SqT.of
/-- a list or a tuple walked: J gives its items -/
def iSeq (tl : TE) : TI := fun σ H R => tl σ H fun x H1 => ∃ a xs, x = .ref a ∧ RowAt H1 a xs ∧ ∀ J G, Walk J xs.length G (YAt xs) → (∀ H, H a = H1 a → G H) → R J H1
theorem pi_seq {X : Cx} {tg l : Expr} {tl : TE} (hl : PE X l tl) : PI X tg l (iSeq tl) := by
  refine ⟨fun pins s σ H R I h => ?_⟩
  refine thn (hl.run pins s σ H _ I h) fun v s1 ⟨x, H1, I1, r1, q1⟩ => ?_
  obtain ⟨a, xs, e, hrow, q⟩ := q1
  subst e
  cases r1
  rcases hrow with hq | hq
  · obtain ⟨its, rv, p, hz⟩ := I1.list (SqL.of hq)
    refine wpAny_pyIter_list p.isList ?_
    refine ⟨s1.heap.objs.size, [s1.heap.objs.size], _, _, H1, rfl, I1.kept (t' := s1.toks) fun b o e => Heap.get?_push_of_some _ e, turn_list a _, ⟨_, Heap.get?_push_size _ rfl, rfl, rfl⟩, fun b hb => ?_, q (Itl X.K a) _ walk_list fun H s => SqL.of (s.trans hq)⟩
    have e : b = s1.heap.objs.size := by simpa using hb
    subst e
    exact I1.fpOk (Nat.le_refl _) (I1.hok.fresh (Nat.le_refl _))
  · obtain ⟨its, rv, p, hz⟩ := I1.tuple (SqT.of hq)
    refine wpAny_pyIter_tuple p ?_
    refine ⟨s1.heap.objs.size, [s1.heap.objs.size], _, _, H1, rfl, I1.kept (t' := s1.toks) fun b o e => Heap.get?_push_of_some _ e, turn_tuple a _, ⟨_, Heap.get?_push_size _ rfl, rfl, rfl⟩, fun b hb => ?_, q (Itt X.K a) _ walk_tup fun H s => SqT.of (s.trans hq)⟩
    have e : b = s1.heap.objs.size := by simpa using hb
    subst e
    exact I1.fpOk (Nat.le_refl _) (I1.hok.fresh (Nat.le_refl _))
end CP
namespace CP
open PySem L2
abbrev letters : Str := "abcdefghijklmnopqrstuvwxyz"
structure NameOk (z : Str) : Prop where
  pos : 0 < z.length
  most : z.length ≤ 8
  all : ∀ c ∈ z.cps.toList, c ∈ letters.cps.toList
def spName : Sp := fun vs H Q _ => ∃ z : Str, vs = [.str z] ∧ NameOk z ∧ ∀ H', Same H H' → Q (.bl true) H'
def spVerts : Sp := fun vs H Q _ => ∃ (a : Addr) (ns : List Str), vs = [.ref a] ∧ RowAt H a (ns.map V.str) ∧ 0 < ns.length ∧ ns.length ≤ 8 ∧ ns.Nodup ∧ (∀ z ∈ ns, NameOk z) ∧ ∀ H', Same H H' → Q (.bl true) H'
/-- edges as tracked tuples: address and the two names -/
abbrev Ed := Addr × (Str × Str)
def EdAt (H : Hp) (p : Ed) : Prop := H p.1 = some (.tup [.str p.2.1, .str p.2.2])
/-- an edge between names of ns -/
def EdOk (ns : List Str) (e : Str × Str) : Prop := e.1 ∈ ns ∧ e.2 ∈ ns ∧ ltS e.1 e.2 = true
def spEdges : Sp := fun vs H Q _ => ∃ (a b : Addr) (ns : List Str) (ks : List Ed), vs = [.ref a, .ref b] ∧ RowAt H a (ns.map V.str) ∧ RowAt H b (ks.map fun p => V.ref p.1) ∧ (∀ p ∈ ks, EdAt H p) ∧ (∀ p ∈ ks, EdOk ns p.2) ∧
  (ks.map (·.2)).Nodup ∧ ks.length ≤ 18 ∧ ∀ H', Same H H' → Q (.bl true) H'
theorem Same.new {H : Hp} {p : Addr} {o : HO} (h : H p = none) : Same H (L2.upd H p o) := fun c u e => by rw [upd_ne (ne_of_none e h)]; exact e
/-- the list at D grows: what stood before D stands -/
theorem Same.grow {H H' : Hp} {D : Addr} {o : HO} (h : H D = none) (s : Same H H') : Same H (L2.upd H' D o) := fun c u e => by rw [upd_ne (ne_of_none e h)]; exact s c u e
section
variable {P : Program} {w : World} {K : PySem.W.Frag} {mg : Str → Option Value} {base : Heap}
theorem scName : FnScope ["value", "letter"] ["value"] (defScope sName) := ⟨rfl, rfl, rfl, by decide +kernel, rfl, by decide +kernel, by decide +kernel⟩
theorem ok_name {f : Addr} {fd : FuncData} {t1 t2 : Tok} (F : Fun K "is_name" "is_name" sName f fd) (mi : mg "isinstance" = none) (ms : mg "str" = none) (ml : mg "len" = none) (ma : mg "all" = none) (mL : mg "LETTERS" = some (.str letters t1)) (mN : mg "LONGEST_NAME" = some (.int 8 t2)) :
    FnOk P w K mg base CX0 1 f fd ["value"] spName := by
  refine F.ok scName (fun vs H Q E h => ?_) (fun cdv A outer s H vs Q E hr h => ?_)
  · obtain ⟨z, rfl, _⟩ := h; rfl
  · obtain ⟨z, rfl, N, k⟩ := h
    refine ⟨_, pss_cons (ps_if (PW.pt (pw_or (pt_not (pt_val (pe_callB call_isi (by rfl) mi (by decide +kernel) (pa_cons (pv 0) (pa_cons (pe_bltn (v := .ty "str") (by rfl) ms (by decide +kernel) rfl) pa_nil)))))
        (pw_or (pt_cmpR op_eq (pe_callB call_len_str (by rfl) ml PySem.boot_len (pa_cons (pv 0) pa_nil)) pe_int (nomark _)) (pw_or1 (pt_cmpR op_gt (pe_callB call_len_str (by rfl) ml PySem.boot_len (pa_cons (pv 0) pa_nil)) (pe_glob (v := .int 8) rfl mN ⟨_, rfl⟩) (nomark _))))))
        (pss_one (ps_ret pe_bl)) pss_nil)
      (pss_one (ps_ret (pe_callB (cr_all rfl) (by rfl) ma (by decide +kernel) (pa_cons (pe_lc (own := [("letter", 1)]) (g := gName 1) (tt := tYes) rfl scName.nd (pi_str (pv 0)) (blkOk_by (own := [("letter", 1)]) (N := ["value", "letter"]) (sc := defScope sName) (by decide +kernel))
        (fun _ _ _ _ _ => pg_name (i := 1) scName.nd rfl (Or.inl rfl)) (fun _ _ _ _ _ => pts_nil) (fun _ _ _ _ _ => pe_cmpR op_in_sign (pv 1) (pe_glob (v := .str letters) rfl mL ⟨_, rfl⟩) rfl)) pa_nil)))), ?_⟩
    have hz : z.length ≤ sizeLine := by have := N.most; rw [sizeLine_eq]; omega
    refine ⟨_, rfl, _, _, .type "str", _, true, rfl, .ty _, .base (.str z), kit_ty (by decide +kernel), _, rfl, iteF ?_⟩
    refine ⟨_, rfl, z, rfl, hz, rfl, _, rfl, ?_⟩
    rw [decide_eq_false (by intro e; have := N.pos; injection e with e; omega)]
    refine iteF ⟨_, rfl, z, rfl, hz, _, _, rfl, rfl, _, rfl, ?_⟩
    rw [decide_eq_false (by have := N.most; omega)]
    refine iteF ?_
    refine ⟨_, rfl, z, rfl, fun D hD => lc_it walk_str (fun i H' => H' D = some (.lst ((List.replicate i true).map V.bl)) ∧ Same H H') ⟨upd_same, Same.new hD⟩ (fun _ _ _ _ => True.intro) ?_ ?_⟩
    · rintro i x H1 H2 hi ⟨e1, s1⟩ ⟨rfl, c, hc, rfl⟩
      refine ⟨rfl, _, rfl, c, letters, rfl, rfl, _, e1, by rw [List.length_map, List.length_replicate, sizeLine_eq]; have := N.most; have e : z.cps.size = z.length := rfl; omega, ?_, Same.grow hD s1⟩
      rw [decide_eq_true (N.all c (by simpa using Array.mem_of_getElem? hc)), upd_same, List.replicate_succ', List.map_append]; rfl
    · rintro H1 ⟨e1, s1⟩
      refine ⟨D, List.replicate z.cps.size true, rfl, SqL.of e1, ?_⟩
      have e : (List.replicate z.cps.size true).all id = true := by simp
      rw [e]; exact k _ s1
theorem scVerts : FnScope ["value", "name"] ["value"] (defScope sVerts) := ⟨rfl, rfl, rfl, by decide +kernel, rfl, by decide +kernel, by decide +kernel⟩
theorem ok_verts {f fR fN : Addr} {fd fdR fdN : FuncData} {t1 : Tok} (F : Fun K "are_vertices" "are_vertices" sVerts f fd) (ml : mg "len" = none) (ma : mg "all" = none) (mset : mg "set" = none) (mM : mg "MOST_VERTICES" = some (.int 8 t1))
    (mR : mg "is_row" = some (.ref fR)) (FR : FnOk P w K mg base CX0 1 fR fdR ["value"] spRow) (kR : PySem.W.keepIn K (.ref fR) = true) (bR : Binds K fdR ["value"] [])
    (mN : mg "is_name" = some (.ref fN)) (FN : FnOk P w K mg base CX0 1 fN fdN ["value"] spName) (kN : PySem.W.keepIn K (.ref fN) = true) (bN : Binds K fdN ["value"] []) : FnOk P w K mg base CX0 2 f fd ["value"] spVerts := by
  refine F.ok scVerts (fun vs H Q E h => ?_) (fun cdv A outer s H vs Q E hr h => ?_)
  · obtain ⟨a, ns, rfl, _⟩ := h; rfl
  · obtain ⟨a, ns, rfl, hA, h0, h8, nd, each, k⟩ := h
    refine ⟨_, pss_cons (ps_if (PW.pt (pw_or (pt_not (pt_val (pe_call FR hr rfl mR kR bR .nil pass0 (pa_cons (pv 0) pa_nil))))
        (pw_or (pt_cmpR op_eq (pe_callB call_len_seq (by rfl) ml PySem.boot_len (pa_cons (pv 0) pa_nil)) pe_int (nomark _)) (pw_or1 (pt_cmpR op_gt (pe_callB call_len_seq (by rfl) ml PySem.boot_len (pa_cons (pv 0) pa_nil)) (pe_glob (v := .int 8) rfl mM ⟨_, rfl⟩) (nomark _))))))
        (pss_one (ps_ret pe_bl)) pss_nil)
      (pss_one (ps_ret (pe_and (pe_callB (cr_all rfl) (by rfl) ma (by decide +kernel) (pa_cons (pe_lc (own := [("name", 1)]) (g := gName 1) (tt := tYes) rfl scVerts.nd (pi_seq (pv 0)) (blkOk_by (own := [("name", 1)]) (N := ["value", "name"]) (sc := defScope sVerts) (by decide +kernel))
        (fun _ _ _ _ _ => pg_name (i := 1) scVerts.nd rfl (Or.inl rfl)) (fun _ _ _ _ _ => pts_nil) (fun _ _ _ _ _ => pe_call FN hr rfl mN kN bN .nil pass0 (pa_cons (pv 1) pa_nil))) pa_nil))
        (pe_one (pe_cmpR op_eq (pe_lenSetX rfl (by rfl) ml (by rfl) mset (pv 0)) (pe_callB call_len_seq (by rfl) ml PySem.boot_len (pa_cons (pv 0) pa_nil)) (nomark _)))))), ?_⟩
    refine ⟨_, rfl, a, _, rfl, hA, fun H1 s1 => ⟨_, rfl, iteF ?_⟩⟩
    have hA1 := hA.same s1
    refine ⟨_, rfl, a, _, rfl, hA1.sq, rfl, _, rfl, ?_⟩
    rw [decide_eq_false (by intro e; injection e with e; rw [List.length_map] at e; omega)]
    refine iteF ⟨_, rfl, a, _, rfl, hA1.sq, _, _, rfl, rfl, _, rfl, ?_⟩
    rw [decide_eq_false (by rw [List.length_map]; omega)]
    refine iteF ?_
    refine ⟨_, rfl, a, _, rfl, hA1, fun J GG wk hG D hD => lc_it wk (fun i H' => H' D = some (.lst ((List.replicate i true).map V.bl)) ∧ Same H1 H') ⟨upd_same, Same.new hD⟩ (fun i H' _ ⟨_, s2⟩ => hG _ (hA1.eq s2)) ?_ ?_⟩
    · rintro i x H2 H2' hi0 ⟨e1, s2⟩ ⟨rfl, hi⟩
      have li : i < ns.length := by have := (List.getElem?_eq_some_iff.mp hi).1; rw [List.length_map] at this; exact this
      rw [List.getElem?_map, List.getElem?_eq_getElem li] at hi
      obtain rfl : V.str ns[i] = x := Option.some.inj hi
      refine ⟨rfl, _, rfl, _, rfl, each _ (List.getElem_mem li), fun H3 s3 => ⟨_, s3 _ _ e1, by rw [List.length_map, List.length_replicate, sizeLine_eq]; omega, ?_, Same.grow hD (s2.trans s3)⟩⟩
      rw [upd_same, List.replicate_succ', List.map_append]; rfl
    · rintro H2 ⟨e1, s2⟩
      refine ⟨D, _, rfl, SqL.of e1, _, rfl, ?_⟩
      have e : (List.replicate (ns.map V.str).length true).all id = true := by simp
      rw [e]
      refine iteT ⟨_, rfl, a, ns, rfl, (hA1.same s2).sq, by omega, fun n _ q => ⟨_, rfl, a, _, rfl, (hA1.same s2).sq, rfl, ?_⟩⟩
      rw [q.mpr nd, decide_eq_true (by rw [List.length_map])]
      exact k _ (s1.trans s2)
theorem scEdges : FnScope ["vertices", "value", "edge"] ["vertices", "value"] (defScope sEdges) := ⟨rfl, rfl, rfl, by decide +kernel, rfl, by decide +kernel, by decide +kernel⟩
theorem ok_edges {f fR fJ : Addr} {fd fdR fdJ : FuncData} {t1 : Tok} (F : Fun K "are_edges" "are_edges" sEdges f fd) (ml : mg "len" = none) (ma : mg "all" = none) (mset : mg "set" = none) (mM : mg "MOST_EDGES" = some (.int 18 t1))
    (mR : mg "is_row" = some (.ref fR)) (FR : FnOk P w K mg base CX0 1 fR fdR ["value"] spRow) (kR : PySem.W.keepIn K (.ref fR) = true) (bR : Binds K fdR ["value"] [])
    (mJ : mg "joins" = some (.ref fJ)) (FJ : FnOk P w K mg base CX0 2 fJ fdJ ["vertices", "value"] (spJoins K)) (kJ : PySem.W.keepIn K (.ref fJ) = true) (bJ : Binds K fdJ ["vertices", "value"] []) : FnOk P w K mg base CX0 3 f fd ["vertices", "value"] spEdges := by
  refine F.ok scEdges (fun vs H Q E h => ?_) (fun cdv A outer s H vs Q E hr h => ?_)
  · obtain ⟨a, b, ns, ks, rfl, _⟩ := h; rfl
  · obtain ⟨a, b, ns, ks, rfl, hA, hB, hat, hok, nd, h18, k⟩ := h
    have hr1 : Room 1 _ := hr.mono (by decide)
    refine ⟨_, pss_cons (ps_if (PW.pt (pw_or (pt_not (pt_val (pe_call FR hr1 rfl mR kR bR .nil pass0 (pa_cons (pv 1) pa_nil))))
        (pw_or1 (pt_cmpR op_gt (pe_callB call_len_seq (by rfl) ml PySem.boot_len (pa_cons (pv 1) pa_nil)) (pe_glob (v := .int 18) rfl mM ⟨_, rfl⟩) (nomark _)))))
        (pss_one (ps_ret pe_bl)) pss_nil)
      (pss_one (ps_ret (pe_and (pe_callB (cr_all rfl) (by rfl) ma (by decide +kernel) (pa_cons (pe_lc (own := [("edge", 2)]) (g := gName 2) (tt := tYes) rfl scEdges.nd (pi_seq (pv 1)) (blkOk_by (own := [("edge", 2)]) (N := ["vertices", "value", "edge"]) (sc := defScope sEdges) (by decide +kernel))
        (fun _ _ _ _ _ => pg_name (i := 2) scEdges.nd rfl (Or.inl rfl)) (fun _ _ _ _ _ => pts_nil) (fun _ _ _ _ _ => pe_call FJ hr rfl mJ kJ bJ .nil pass0 (pa_cons (pv 0) (pa_cons (pv 2) pa_nil)))) pa_nil))
        (pe_one (pe_cmpR op_eq (pe_lenSetP rfl (by rfl) ml (by rfl) mset hr.units (pv 1)) (pe_callB call_len_seq (by rfl) ml PySem.boot_len (pa_cons (pv 1) pa_nil)) (nomark _)))))), ?_⟩
    refine ⟨_, rfl, b, _, rfl, hB, fun H1 s1 => ⟨_, rfl, iteF ?_⟩⟩
    have hA1 := hA.same s1
    have hB1 := hB.same s1
    refine ⟨_, rfl, b, _, rfl, hB1.sq, _, _, rfl, rfl, _, rfl, ?_⟩
    rw [decide_eq_false (by rw [List.length_map]; omega)]
    refine iteF ?_
    refine ⟨_, rfl, b, _, rfl, hB1, fun J GG wk hG D hD => lc_it wk (fun i H' => H' D = some (.lst ((List.replicate i true).map V.bl)) ∧ Same H1 H') ⟨upd_same, Same.new hD⟩ (fun i H' _ ⟨_, s2⟩ => hG _ (hB1.eq s2)) ?_ ?_⟩
    · rintro i x H2 H2' hi0 ⟨e1, s2⟩ ⟨rfl, hi⟩
      have li : i < ks.length := by have := (List.getElem?_eq_some_iff.mp hi).1; rw [List.length_map] at this; exact this
      rw [List.getElem?_map, List.getElem?_eq_getElem li] at hi
      obtain rfl : V.ref ks[i].1 = x := Option.some.inj hi
      have mem := List.getElem_mem li
      obtain ⟨o1, o2, o3⟩ := hok _ mem
      refine ⟨rfl, _, rfl, _, rfl, a, ks[i].1, ns, ks[i].2.1, ks[i].2.2, rfl, (hA1.same s2).sq, s2 _ _ (s1 _ _ (hat _ mem)), _, e1, by rw [List.length_map, List.length_replicate, sizeLine_eq]; omega, ?_, Same.grow hD s2⟩
      rw [upd_same, List.replicate_succ', List.map_append, decide_eq_true o1, decide_eq_true o2, o3]; rfl
    · rintro H2 ⟨e1, s2⟩
      refine ⟨D, _, rfl, SqL.of e1, _, rfl, ?_⟩
      have e : (List.replicate (ks.map fun p => V.ref p.1).length true).all id = true := by simp
      rw [e]
      refine iteT ⟨_, rfl, b, ks.map (fun p => (p.1, [p.2.1, p.2.2])), rfl, ?_, ?_, by rw [List.length_map]; omega, fun n _ q => ⟨_, rfl, b, _, rfl, (hB1.same s2).sq, rfl, ?_⟩⟩
      · rw [List.map_map]; exact (hB1.same s2).sq
      · intro p hp
        obtain ⟨p0, hp0, rfl⟩ := List.mem_map.mp hp
        exact SqT.of (s2 _ _ (s1 _ _ (hat _ hp0)))
      · have nd2 : ((ks.map (fun p => (p.1, [p.2.1, p.2.2]))).map (·.2)).Nodup := by
          rw [List.map_map]
          have : ((fun x => x.2) ∘ fun p : Ed => (p.1, [p.2.1, p.2.2])) = (fun e : Str × Str => [e.1, e.2]) ∘ (fun p : Ed => p.2) := rfl
          rw [this, ← List.map_map]
          exact List.Pairwise.map _ (fun x y h e => h (by simp at e; exact Prod.ext e.1 e.2)) nd
        rw [q.mpr nd2, decide_eq_true (by simp)]
        exact k _ (s1.trans s2)
end
end CP
namespace CP
open PySem L2
/-! ### the order of edges -/
def encE (e : Str × Str) : PyData := .tuple [.str e.1, .str e.2]
def ltE (e f : Str × Str) : Bool := if e.1 = f.1 then (if e.2 = f.2 then false else ltS e.2 f.2) else ltS e.1 f.1
theorem eqv_str (x y : Str) : PyData.eqv (.str x) (.str y) = decide (x = y) := by
  simp only [PyData.eqv]
  by_cases h : x = y
  · subst h; simp
  · simp [h]
theorem dataLt_E (e f : Str × Str) : PySem.W.dataLt (encE e) (encE f) = ltE e f := by
  unfold encE ltE ltS
  rw [PySem.W.dataLt_pair (by simp [PySem.W.alike]) (by simp [PySem.W.alike]), eqv_str, eqv_str, PySem.W.dataLt_str, PySem.W.dataLt_str]
  by_cases h1 : e.1 = f.1 <;> by_cases h2 : e.2 = f.2 <;> simp [h1, h2]
theorem str_ext {x y : Str} (h : x.cps.toList = y.cps.toList) : x = y := PySem.W.str_of_cps h
theorem ltS_irrefl (x : Str) : ltS x x = false := by unfold ltS; exact decide_eq_false (List.lt_irrefl _)
theorem ltS_asymm {x y : Str} (h : ltS x y = true) : ltS y x = false := by
  unfold ltS at *
  exact decide_eq_false fun z => List.lt_irrefl _ (List.lt_trans (of_decide_eq_true h) z)
theorem ltS_total {x y : Str} (h : x ≠ y) (h2 : ltS x y = false) : ltS y x = true := by
  unfold ltS at *
  refine decide_eq_true ?_
  have n : ¬ x.cps.toList < y.cps.toList := of_decide_eq_false h2
  have le : y.cps.toList ≤ x.cps.toList := List.not_lt.mp n
  rcases List.le_iff_lt_or_eq.mp le with l | e
  · exact l
  · exact absurd (str_ext e.symm) h
theorem ltE_irrefl (e : Str × Str) : ltE e e = false := by simp [ltE]
theorem ltE_asymm {e f : Str × Str} (h : ltE e f = true) : ltE f e = false := by
  unfold ltE at *
  by_cases h1 : e.1 = f.1
  · rw [if_pos h1] at h; rw [if_pos h1.symm]
    by_cases h2 : e.2 = f.2
    · rw [if_pos h2] at h; cases h
    · rw [if_neg h2] at h; rw [if_neg fun z => h2 z.symm]; exact ltS_asymm h
  · rw [if_neg h1] at h; rw [if_neg fun z => h1 z.symm]; exact ltS_asymm h
theorem ltE_total {e f : Str × Str} (h : e ≠ f) (h2 : ltE e f = false) : ltE f e = true := by
  unfold ltE at *
  by_cases h1 : e.1 = f.1
  · rw [if_pos h1] at h2; rw [if_pos h1.symm]
    by_cases h3 : e.2 = f.2
    · exact absurd (Prod.ext h1 h3) h
    · rw [if_neg h3] at h2; rw [if_neg fun z => h3 z.symm]; exact ltS_total h3 h2
  · rw [if_neg h1] at h2; rw [if_neg fun z => h1 z.symm]; exact ltS_total h1 h2
def leD (p q : Ed) : Bool := PySem.W.dataLe false (fun p : Ed => encE p.2) p q
theorem leD_eq (p q : Ed) : leD p q = !ltE q.2 p.2 := by
  show (!PySem.W.dataLt (encE q.2) (encE p.2)) = _
  rw [dataLt_E]
theorem leD_total : PySem.W.TotalLe leD := by
  show PySem.W.TotalLe (PySem.W.dataLe false fun p : Ed => encE p.2)
  exact PySem.W.sortLe_total _ _ _
/-- the edges in ascending order -/
def sortE (ks : List Ed) : List Ed := ks.mergeSort leD
theorem sortE_perm (ks : List Ed) : (sortE ks).Perm ks := List.mergeSort_perm ks leD
theorem sortE_lt {ks : List Ed} (nd : (ks.map (·.2)).Nodup) : (sortE ks).Pairwise (fun p q => ltE p.2 q.2 = true) := by
  have h1 := PySem.W.sort_pairwise leD_total ks
  have h2 : ((sortE ks).map (·.2)).Nodup := ((sortE_perm ks).map _).nodup_iff.mpr nd
  rw [List.nodup_iff_pairwise_ne, List.pairwise_map] at h2
  refine (h1.and h2).imp fun {p q} ⟨a, b⟩ => ?_
  rw [leD_eq] at a
  have a' : ltE q.2 p.2 = false := by simpa using a
  exact ltE_total (fun z => b z.symm) a'
/-- a sorted arrangement is the one -/
theorem asc_unique : ∀ {l m : List Ed}, l.Perm m → l.Pairwise (fun p q => ltE p.2 q.2 = true) → m.Pairwise (fun p q => ltE p.2 q.2 = true) → l = m
  | [], m, h, _, _ => h.nil_eq
  | p :: l, [], h, _, _ => absurd h.length_eq (by simp)
  | p :: l, q :: m, h, h1, h2 => by
    have e : p = q := by
      by_cases c : p = q
      · exact c
      · have a : p ∈ m := by
          have := h.mem_iff.mp (List.mem_cons_self (a := p) (l := l))
          rcases List.mem_cons.mp this with z | z
          · exact absurd z c
          · exact z
        have b : q ∈ l := by
          have := h.mem_iff.mpr (List.mem_cons_self (a := q) (l := m))
          rcases List.mem_cons.mp this with z | z
          · exact absurd z.symm c
          · exact z
        have u := (List.pairwise_cons.mp h1).1 q b
        have v := (List.pairwise_cons.mp h2).1 p a
        rw [ltE_asymm u] at v; cases v
    subst e
    rw [asc_unique (List.Perm.cons_inv h) (List.pairwise_cons.mp h1).2 (List.pairwise_cons.mp h2).2]
section
variable {X : Cx}
def rSortE : List V → Hp → VK → Prop := fun vs H Q => ∃ (a : Addr) (ks : List Ed), vs = [V.ref a] ∧ H a = some (.lst (ks.map fun p => V.ref p.1)) ∧ (∀ p ∈ ks, EdAt H p) ∧ ks.length < 1000 ∧
  ∀ p, H p = none → Q (.ref p) (L2.upd H p (.lst ((sortE ks).map fun p => V.ref p.1)))
theorem each_refs : ∀ {ks : List Ed} {us : List Value}, PySem.W.EachIs (fun v (p : Ed) => v = Value.ref p.1) us ks → us = ks.map fun p => Value.ref p.1
  | [], _, .nil => rfl
  | p :: ks, _, .cons h t => by rw [h, each_refs t]; rfl
theorem refs_each : ∀ ks : List Ed, PySem.W.EachIs (fun v (p : Ed) => v = Value.ref p.1) (ks.map fun p => Value.ref p.1) ks
  | [] => .nil
  | p :: ks => .cons rfl (refs_each ks)
theorem vals_refs : ∀ ks : List Ed, Vals (ks.map fun p => V.ref p.1) (ks.map fun p => Value.ref p.1)
  | [] => .nil
  | p :: ks => .cons rfl (vals_refs ks)
theorem dp_edge {K : PySem.W.Frag} {H : Hp} {p : Ed} (h : EdAt H p) : Dp K H (.ref p.1) (encE p.2) := .tup (SqT.of h) (.cons (.str _) (.cons (.str _) .nil))
theorem reads_each {pins : List (Addr × Obj)} {σ : L2.St} {H : Hp} {s : Shared} (I : L2.Inv X pins σ H s) : ∀ {ks : List Ed}, (∀ p ∈ ks, EdAt H p) → PySem.W.EachIs (fun v (p : Ed) => ∃ as, Reads s.heap v (encE p.2) as) (ks.map fun p => Value.ref p.1) ks
  | [], _ => .nil
  | p :: ks, h => .cons (Dp.reads I _ _ _ (dp_edge (h p List.mem_cons_self)) rfl) (reads_each I fun q hq => h q (List.mem_cons_of_mem _ hq))
theorem cr_sortE (hu : X.A.units + 64 < cLine) : CallR X (.builtin "sorted") rSortE := by
  intro pins s σ H vs us Q I r h
  obtain ⟨a, ks, rfl, hA, hat, few, k⟩ := h
  obtain ⟨its, rv, pl, _⟩ := I.list (SqL.of hA)
  rw [Vals.ref1 r]
  have ei := refs_only (κ := Str × Str) rv
  subst ei
  refine PySem.W.sorted_data (β := Ed) (R := fun v p => v = Value.ref p.1) (enc := fun p => encE p.2) pl.isList (refs_each ks) (reads_each I hat) (PySem.W.AllAlike.of fun b b' => by simp [encE, PySem.W.alike, PySem.W.alikeAll]) (PySem.W.Sortable.tuples fun b => ⟨_, _, rfl⟩) (by rw [sizeLine_eq]; omega)
    (fun b _ => by simp [encE, PyData.depth, PyData.depthAll]; omega) fun out hl e => ?_
  have eo : out = (sortE ks).map fun p => Value.ref p.1 := each_refs e
  subst eo
  obtain ⟨ep, he⟩ := PyProof.Rows.sortedAll_at s.heap (ks.map fun p => Value.ref p.1) ((sortE ks).map fun p => Value.ref p.1).toArray
  have len : ((sortE ks).map fun p => V.ref p.1).length ≤ sizeLine := by rw [List.length_map, (sortE_perm ks).length_eq, sizeLine_eq]; omega
  exact ⟨.ref _, L2.upd H (s.heap.objs.size + 1) (.lst ((sortE ks).map fun p => V.ref p.1)), I.laid (t' := s.toks) (fun _ _ => PyProof.Rows.sortedAll_old) (Nat.le_succ _) ⟨len, _, ep, vals_refs _, he⟩, rfl, k _ (I.hok.fresh (Nat.le_succ _))⟩
/-- sorted(a list or a tuple of edges) -/
def rSortER : List V → Hp → VK → Prop := fun vs H Q => ∃ (a : Addr) (ks : List Ed), vs = [V.ref a] ∧ RowAt H a (ks.map fun p => V.ref p.1) ∧ (∀ p ∈ ks, EdAt H p) ∧ ks.length < 1000 ∧
  ∀ p, H p = none → Q (.ref p) (L2.upd H p (.lst ((sortE ks).map fun p => V.ref p.1)))
theorem cr_sortER (hu : X.A.units + 64 < cLine) : CallR X (.builtin "sorted") rSortER := by
  intro pins s σ H vs us Q I r h
  obtain ⟨a, ks, rfl, hA, hat, few, k⟩ := h
  rcases hA with hA | hA
  · exact cr_sortE hu pins s σ H _ us Q I r ⟨a, ks, rfl, hA, hat, few, k⟩
  obtain ⟨its, rv, pl, _⟩ := I.tuple (SqT.of hA)
  rw [Vals.ref1 r]
  have ei := refs_only (κ := Str × Str) rv
  subst ei
  refine sorted_dataT (β := Ed) (R := fun v p => v = Value.ref p.1) (enc := fun p => encE p.2) pl (refs_each ks) (reads_each I hat) (PySem.W.AllAlike.of fun b b' => by simp [encE, PySem.W.alike, PySem.W.alikeAll]) (PySem.W.Sortable.tuples fun b => ⟨_, _, rfl⟩) (by rw [sizeLine_eq]; omega)
    (fun b _ => by simp [encE, PyData.depth, PyData.depthAll]; omega) fun out hl e => ?_
  have eo : out = (sortE ks).map fun p => Value.ref p.1 := each_refs e
  subst eo
  obtain ⟨ep, he⟩ := PyProof.Rows.sortedAll_at s.heap (ks.map fun p => Value.ref p.1) ((sortE ks).map fun p => Value.ref p.1).toArray
  have len : ((sortE ks).map fun p => V.ref p.1).length ≤ sizeLine := by rw [List.length_map, (sortE_perm ks).length_eq, sizeLine_eq]; omega
  exact ⟨.ref _, L2.upd H (s.heap.objs.size + 1) (.lst ((sortE ks).map fun p => V.ref p.1)), I.laid (t' := s.toks) (fun _ _ => PyProof.Rows.sortedAll_old) (Nat.le_succ _) ⟨len, _, ep, vals_refs _, he⟩, rfl, k _ (I.hok.fresh (Nat.le_succ _))⟩
def rLtE : R2 := fun x y H Q => ∃ p q : Ed, x = .ref p.1 ∧ y = .ref q.1 ∧ EdAt H p ∧ EdAt H q ∧ Q (.bl (ltE p.2 q.2)) H
theorem op_ltE (hu : X.A.units + 64 < cLine) : OpR X (compareOp .Lt) rLtE := by
  intro pins s σ H x y v u Q I rx ry h
  obtain ⟨p, q, rfl, rfl, hp, hq, k⟩ := h
  obtain ⟨as, r1⟩ := Dp.reads I (encE p.2) _ v (dp_edge hp) rx
  obtain ⟨bs, r2⟩ := Dp.reads I (encE q.2) _ u (dp_edge hq) ry
  have c := PySem.W.rcLt_alike (encE p.2) (encE q.2) X.A s v u as bs r1 r2 (by simp [encE, PySem.W.alike, PySem.W.alikeAll]) (by simp [encE]) (by simp [encE, PyData.depth, PyData.depthAll]; omega)
  rw [dataLt_E] at c
  exact c _ _ _ _ ⟨.bl _, H, I, rfl, k⟩
end
end CP
namespace CP
open PySem L2
open AutoSeq1 (wpAny_loadPart')
/-! ### enumerate(t), t a tuple -/
theorem new_enumT (l : Addr) (items : Array Value) (n : Nat) (dct : Option Addr) (sl : Array (Option Value)) :
    Meets (Builtin.«enumerate.__new__» ⟨[.type "enumerate", .ref l], []⟩) (fun _ R s => s.heap.get? l = some { cls := .type "tuple", dict := dct, data := .seq items n, slots := sl } ∧
      R (.ok (.ret (.ref (s.heap.push { cls := .type "tuple_iterator", data := .fields #[.ref l, .int 0 0] }).objs.size)))
        { s with heap := (s.heap.push { cls := .type "tuple_iterator", data := .fields #[.ref l, .int 0 0] }).push { cls := .type "enumerate", data := .fields #[.none, .bool false, .ref s.heap.objs.size, rawInt 0, .none, .none] } }) :=
  .of_wp fun prog w A R s h => by
    obtain ⟨hp, g, d, tk, os⟩ := s; obtain ⟨hl, h⟩ := h
    have m1 := sub_enumerate
    have hT : Heap.IsTuple (Shared.heap ⟨hp, g, d, tk, os⟩) l items := ⟨_, hl, rfl, n, rfl⟩
    wp_walk using wpAny_loadPart' hl
    refine wpAny_stack_any fun st => wpAny_pure ?_
    split
    · rename_i c _ _ _ _ _
      cases (c == Value.type "enumerate") <;> (wp_walk using wpAny_loadPart' hl, wpAny_pyIter_tuple hT; exact ⟨_, rfl, h⟩)
    · wp_walk using wpAny_loadPart' hl, wpAny_pyIter_tuple hT
      exact ⟨_, rfl, h⟩
section
variable {prog : Program} {w : World} {A : Around} {E : Value → Shared → Prop} {s : Shared}
abbrev tupIt (l : Addr) : Obj := { cls := .type "tuple_iterator", data := .fields #[.ref l, .int 0 0] }
abbrev enumOb (it : Addr) : Obj := { cls := .type "enumerate", data := .fields #[.none, .bool false, .ref it, rawInt 0, .none, .none] }
theorem call_enumT {l : Addr} {items : Array Value} {Q : Value → Shared → Prop} (hT : s.heap.IsTuple l items)
    (h : ∀ h', IsEnum h' (s.heap.objs.size + 1) s.heap.objs.size 0 .none → h'.IsTupleIter s.heap.objs.size l 0 → (∀ b o, s.heap.get? b = some o → h'.get? b = some o) → Q (.ref (s.heap.objs.size + 1)) { s with heap := h' }) :
    wpAny (model prog w) A (call (.type "enumerate") [.ref l]) Q E s := by
  obtain ⟨⟨c, dct, dt, sl⟩, hl, hc, n, hd⟩ := hT
  simp only at hc hd
  subst hc hd
  refine callType_new F.called_enumerate (by decide) (F.typeCall_enumerate_1 _) (F.newCall_enumerate_1 _) (fun obj => F.args_object_init_2 obj _) F.entry_enumerate_new (new_enumT l items n dct sl) ⟨hl, ?_⟩
  have hz : (s.heap.push (tupIt l)).objs.size = s.heap.objs.size + 1 := Heap.size_push ..
  show _ ∧ _
  rw [hz]
  have he : IsEnum ((s.heap.push (tupIt l)).push (enumOb s.heap.objs.size)) (s.heap.objs.size + 1) s.heap.objs.size 0 .none := by
    have q := Heap.get?_push_size (s.heap.push (tupIt l)) (o := enumOb s.heap.objs.size) rfl
    rw [hz] at q; exact q
  exact ⟨⟨_, he, rfl⟩, h _ he ⟨_, Heap.get?_push_of_some _ (Heap.get?_push_size _ rfl), rfl, rfl⟩ fun b o x => Heap.get?_push_of_some _ (Heap.get?_push_of_some _ x)⟩
end
def ItT (K : PySem.W.Frag) (a : Addr) : It :=
  ⟨fun i H => ∃ (xs : List V) (x : V), SqT K H a xs ∧ xs[i]? = some x, fun i H v H' => ∃ T x, v = .ref T ∧ H T = none ∧ H' = L2.upd H T (.tup [.int (i : Nat), x]) ∧ ∀ xs, SqT K H a xs → xs[i]? = some x, fun i H => ∃ xs : List V, SqT K H a xs ∧ xs.length = i⟩
theorem walk_enumT {K : PySem.W.Frag} {a : Addr} {xs : List V} : Walk (ItT K a) xs.length (fun H => SqT K H a xs) (YPair (fun i => some (.int (i : Nat))) (fun i => xs[i]?)) := by
  refine ⟨fun i _ hi q => ⟨xs, xs[i], q, by simp [hi]⟩, fun _ q => ⟨xs, q, rfl⟩, fun i H v H' _ q y => ?_⟩
  obtain ⟨T, x, h1, h2, h3, h4⟩ := y
  exact ⟨T, _, x, h1, h2, h3, rfl, h4 xs q⟩
theorem turn_enumT {P : Program} {w : World} {K : PySem.W.Frag} {elts : List Expr} {kk : Nat} {tpos : Pos} (a e it : Addr) :
    Turn P w K (.Tuple elts kk tpos) (ItT K a) [e, it] e (fun i h => (∃ old, IsEnum h e it ((i : Nat) : Int) old) ∧ h.IsTupleIter it a i ∧ e ≠ it) where
  mem := by simp
  obj := fun i h ⟨⟨old, he⟩, ⟨o, ho, hc, hd⟩, _⟩ b hb => by
    rcases (show b = e ∨ b = it by simpa using hb) with rfl | rfl
    · exact ⟨_, he, fun v q => nomatch q⟩
    · exact ⟨o, ho, fun v q => by rw [hd] at q; cases q⟩
  keep := fun i h h' ⟨⟨old, he⟩, hi, hne⟩ k => ⟨⟨old, k e (by simp) _ he⟩, hi.at fun o q => k it (by simp) o q, hne⟩
  item := by
    intro X hP hw hK hc i pins s σ H E I hf ⟨⟨old, he⟩, hit, hne⟩ ⟨xs, x, hq, hx⟩
    subst hP hw hK
    obtain ⟨its, rv, p, hz⟩ := I.tuple hq
    obtain ⟨u, hu, ru⟩ := rv.get hx
    have hel : e < s.heap.objs.size := Heap.lt_size he
    have hil : it < s.heap.objs.size := by obtain ⟨_, q, _⟩ := hit; exact Heap.lt_size q
    have ea : e ≠ a := fun z => by
      obtain ⟨o, ho, hc2, _⟩ := p
      rw [← z, he] at ho; cases ho; injection hc2 with hc2; exact absurd hc2 (by decide)
    have ia : a ≠ it := fun z => by
      obtain ⟨o, ho, hc2, _⟩ := p
      obtain ⟨o2, ho2, hc3, _⟩ := hit
      rw [z, ho2] at ho; cases ho; rw [hc3] at hc2; injection hc2 with hc2; exact absurd hc2 (by decide)
    have hiu : its.toArray[i]? = some u := by simpa using hu
    have li : i < its.toArray.size := (Array.getElem?_eq_some_iff.mp hiu).1
    refine wpAny_pyNext_enum_itemD (Draws.tuple (A := X.A.in1) (by simp [I.ok.hd hc]) it a ia its.toArray) he ⟨hit, p⟩ li hne (by simp [hne, ea]) fun x' h' tk px ho st' hT hsz hk => ?_
    obtain rfl : x' = u := Option.some.inj (px.symm.trans hiu)
    refine ⟨_, rfl, wpAny_letOwnedTupleGo_enum (s := { s with heap := h', toks := tk + 1 }) ho fun h'' he' sb => ?_⟩
    have hT2 : h''.get? s.heap.objs.size = some { cls := .type "tuple", data := .seq #[.int i tk, x'] } := (sb.2 _ (Nat.ne_of_gt hel)).trans hT
    have new : ObjOk X.prog X.w (L2.upd H s.heap.objs.size (.tup [.int (i : Nat), x])) h'' s.heap.objs.size (.tup [.int (i : Nat), x]) :=
      ⟨by show 2 ≤ sizeLine; decide, [.int i tk, x'], .cons ⟨_, rfl⟩ (.cons ru .nil), ⟨_, hT2, rfl, _, rfl⟩⟩
    have I1 : L2.Inv X pins σ (L2.upd H s.heap.objs.size (.tup [.int (i : Nat), x])) { s with heap := h'', toks := tk + 1 } :=
      I.turnedNew (ch := [e, it]) (fun b ob hb q => (sb.2 b (fun z => hb (by simp [z]))).trans (hk b ob (fun z => hb (by simp [z])) (fun z => hb (by simp [z])) q)) hf (Nat.le_refl _) new
    refine ⟨.ref s.heap.objs.size, _, I1, rfl, ⟨_, x, rfl, I.hok.fresh (Nat.le_refl _), rfl, fun ys hy => by rw [I.tuple_inj hy hq]; exact hx⟩, ⟨⟨x', ?_⟩, st'.1.at fun o q => (sb.2 it (Ne.symm hne)).trans q, hne⟩, fun b hb => ?_⟩
    · rw [show ((i + 1 : Nat) : Int) = (i : Int) + 1 by omega]; exact he'
    · have hb' : b < s.heap.objs.size := by
        rcases (show b = e ∨ b = it by simpa using hb) with rfl | rfl
        · exact hel
        · exact hil
      rw [upd_ne (Nat.ne_of_lt hb')]
      exact (hf b hb).1
  done := by
    intro X hP hw hK hc i pins s σ H E I hf ⟨⟨old, he⟩, hit, hne⟩ ⟨xs, hq, hx⟩
    subst hP hw hK
    obtain ⟨its, rv, p, hz⟩ := I.tuple hq
    obtain ⟨f0, f1, f2, f3, f4, f5⟩ := hf it (by simp)
    have hl := rv.length
    have ia : a ≠ it := fun z => by
      obtain ⟨o, ho, hc2, _⟩ := p
      obtain ⟨o2, ho2, hc3, _⟩ := hit
      rw [z, ho2] at ho; cases ho; rw [hc3] at hc2; injection hc2 with hc2; exact absurd hc2 (by decide)
    have ei : i = its.toArray.size := by rw [List.size_toArray]; omega
    rw [ei] at hit
    exact wpAny_pyNext_enum_endD (Draws.tuple (A := X.A.in1) (by simp [I.ok.hd hc]) it a ia its.toArray) he ⟨hit, p⟩ fun h' eb => ⟨rfl, I.turned (t' := s.toks) (fun b o hb q => eb b o hb q) f0 f1 f3 f4 f5⟩
  self := fun A i s Q E ⟨⟨_, he⟩, _⟩ h => wpAny_pyIter_enum he h
def iEnumT (K : PySem.W.Frag) (ta : TA) : TI := fun σ H R => ta σ H fun vs H1 => ∃ a xs, vs = [.ref a] ∧ SqT K H1 a xs ∧ R (ItT K a) H1
theorem pi_enumT {X : Cx} {e : Expr} {ta : TA} {p pos tpos : Pos} {elts : List Expr} {kk : Nat} (hg : Gl X "enumerate") (hm : X.mg "enumerate" = none) (ha : PA X [e] ta) (hs : starEach [e] X.env = [(false, eval e X.env)] := by rfl) :
    PI X (.Tuple elts kk tpos) (.Call (.Name "enumerate" p) [e] [] pos) (iEnumT X.K ta) := by
  refine ⟨fun pins s σ H R I h => ?_⟩
  refine PyProof.Rows.Call_ (ld_blt I hg hm PyProof.Rows.boot_enumerate (PyProof.Rows.callWith_type1 (thn (ha.run pos pins s σ H _ I h) fun us s1 ⟨vs, H1, I1, r1, a, xs, ex, hq, q⟩ => ?_) hs rfl))
  subst ex
  rw [Vals.ref1 r1]
  obtain ⟨its, rv, p', hz⟩ := I1.tuple hq
  refine call_enumT (items := its.toArray) p' fun h' he hit hk => wpAny_pyIter_enum he ?_
  have I2 : L2.Inv X pins σ H1 { s1 with heap := h' } := I1.kept (t' := s1.toks) hk
  refine ⟨s1.heap.objs.size + 1, [s1.heap.objs.size + 1, s1.heap.objs.size], _, _, H1, rfl, I2, turn_enumT a (s1.heap.objs.size + 1) s1.heap.objs.size, ⟨⟨.none, he⟩, hit, Nat.succ_ne_self _⟩, fun b hb => ?_, q⟩
  have hle : s1.heap.objs.size ≤ b := by
    rcases (show b = s1.heap.objs.size + 1 ∨ b = s1.heap.objs.size by simpa using hb) with z | z
    · rw [z]; exact Nat.le_add_right _ _
    · rw [z]; exact Nat.le_refl _
  exact I1.fpOk hle (I1.hok.fresh hle)
end CP
namespace CP
open PySem L2
/-! ### a Graph: its two fields -/
theorem ve : ¬ (("vertices" : Str) = "edges") := by decide +kernel
def gf (a b : Addr) : List (Str × V) := putF "edges" (.ref b) (putF "vertices" (.ref a) [])
theorem gf_eq (a b : Addr) : gf a b = ([("vertices", V.ref a), ("edges", V.ref b)] : List (Str × V)) := by
  show (if ("vertices" : Str) = "edges" then [(("vertices" : Str), V.ref b)] else (("vertices" : Str), V.ref a) :: putF "edges" (V.ref b) []) = _
  rw [if_neg ve]
  all_goals rfl
theorem gf_v (a b : Addr) : (gf a b).lookup ("vertices" : Str) = some (.ref a) := by
  unfold gf; rw [lookup_putF, if_neg ve, lookup_putF, if_pos rfl]
theorem gf_e (a b : Addr) : (gf a b).lookup ("edges" : Str) = some (.ref b) := by
  unfold gf; rw [lookup_putF, if_pos rfl]
/-- at g a Graph of the class C with these names and these edges -/
structure GrAt (C : Addr) (H : Hp) (g : Addr) (ns : List Str) (es : List Ed) : Prop where
  ob : ∃ dx t1 t2, H g = some (.ins C dx (gf t1 t2)) ∧ H t1 = some (.tup (ns.map V.str)) ∧ H t2 = some (.tup (es.map fun p => V.ref p.1))
  ed : ∀ p ∈ es, EdAt H p
theorem GrAt.same {C : Addr} {H H' : Hp} {g : Addr} {ns : List Str} {es : List Ed} (G : GrAt C H g ns es) (s : Same H H') : GrAt C H' g ns es := by
  obtain ⟨⟨dx, t1, t2, a, b, c⟩, e⟩ := G
  exact ⟨⟨dx, t1, t2, s _ _ a, s _ _ b, s _ _ c⟩, fun p hp => s _ _ (e p hp)⟩
/-- the same where each row may be a tuple -/
structure ArgsR (H : Hp) (a b : Addr) (ns : List Str) (ks : List Ed) : Prop where
  na : RowAt H a (ns.map V.str)
  n0 : 0 < ns.length
  n8 : ns.length ≤ 8
  nd : ns.Nodup
  nm : ∀ z ∈ ns, NameOk z
  ea : RowAt H b (ks.map fun p => V.ref p.1)
  ed : ∀ p ∈ ks, EdAt H p
  eo : ∀ p ∈ ks, EdOk ns p.2
  en : (ks.map (·.2)).Nodup
  el : ks.length ≤ 18
structure ArgsOk (H : Hp) (a b : Addr) (ns : List Str) (ks : List Ed) : Prop where
  na : H a = some (.lst (ns.map V.str))
  n0 : 0 < ns.length
  n8 : ns.length ≤ 8
  nd : ns.Nodup
  nm : ∀ z ∈ ns, NameOk z
  ea : H b = some (.lst (ks.map fun p => V.ref p.1))
  ed : ∀ p ∈ ks, EdAt H p
  eo : ∀ p ∈ ks, EdOk ns p.2
  en : (ks.map (·.2)).Nodup
  el : ks.length ≤ 18
theorem ArgsOk.row {H : Hp} {a b : Addr} {ns : List Str} {ks : List Ed} (A : ArgsOk H a b ns ks) : ArgsR H a b ns ks := ⟨.inl A.na, A.n0, A.n8, A.nd, A.nm, .inl A.ea, A.ed, A.eo, A.en, A.el⟩
theorem ArgsR.same {H H' : Hp} {a b : Addr} {ns : List Str} {ks : List Ed} (A : ArgsR H a b ns ks) (s : Same H H') : ArgsR H' a b ns ks := ⟨A.na.same s, A.n0, A.n8, A.nd, A.nm, A.ea.same s, fun p hp => s _ _ (A.ed p hp), A.eo, A.en, A.el⟩
def spInit (C : Addr) : Sp := fun vs H Q _ => ∃ (g dx a b : Addr) (ns : List Str) (ks : List Ed), vs = [.ref g, .ref a, .ref b] ∧ H g = some (.ins C dx []) ∧ ArgsR H a b ns ks ∧
  ∀ H', GrAt C H' g ns (sortE ks) → (∀ c o, c ≠ g → H c = some o → H' c = some o) → Q .non H'
structure GTxt (K : PySem.W.Frag) (mg : Str → Option Value) (C : Addr) : Prop where
  cl : Cls K C
  nV : NoAttr K C "vertices"
  nE : NoAttr K C "edges"
  mg : mg "Graph" = some (.ref C)
section
variable {P : Program} {w : World} {K : PySem.W.Frag} {mg : Str → Option Value} {base : Heap}
theorem scInit : FnScope ["self", "vertices", "edges"] ["self", "vertices", "edges"] (defScope sInit) := ⟨rfl, rfl, rfl, by decide +kernel, rfl, by decide +kernel, by decide +kernel⟩
/-- tuple(a list or a tuple) -/
def rTupR : List V → Hp → VK → Prop := fun xs H Q => ∃ p ys, xs = [.ref p] ∧ RowAt H p ys ∧ ∀ t H', Same H H' → H' t = some (.tup ys) → Q (.ref t) H'
theorem call_tupR {X : Cx} : CallR X (.type "tuple") rTupR := by
  intro pins s σ H xs us Q I r ⟨p, ys, e, a, k⟩
  rcases a with a | a
  · exact call_tuple_of pins s σ H xs us Q I r ⟨p, ys, e, .inl ⟨SqL.of a, fun t ht => k t _ (Same.new ht) upd_same⟩⟩
  · exact call_tuple_of pins s σ H xs us Q I r ⟨p, ys, e, .inr ⟨SqT.of a, k p H (Same.refl _) a⟩⟩
theorem ok_init {f fV fE C : Addr} {fd fdV fdE : FuncData} (F : Fun K "__init__" "Graph.__init__" sInit f fd) (T : GTxt K mg C) (mt : mg "tuple" = none) (ms : mg "sorted" = none)
    (mV : mg "are_vertices" = some (.ref fV)) (FV : FnOk P w K mg base CX0 2 fV fdV ["value"] spVerts) (kV : PySem.W.keepIn K (.ref fV) = true) (bV : Binds K fdV ["value"] [])
    (mE : mg "are_edges" = some (.ref fE)) (FE : FnOk P w K mg base CX0 3 fE fdE ["vertices", "value"] spEdges) (kE : PySem.W.keepIn K (.ref fE) = true) (bE : Binds K fdE ["vertices", "value"] []) :
    FnOk P w K mg base CX0 4 f fd ["self", "vertices", "edges"] (spInit C) := by
  refine F.ok scInit (fun vs H Q E h => ?_) (fun cdv A outer s H vs Q E hr h => ?_)
  · obtain ⟨g, dx, a, b, ns, ks, rfl, _⟩ := h; rfl
  · obtain ⟨g, dx, a, b, ns, ks, rfl, hg, ⟨na, n0, n8, nd, nm, ea, ed, eo, en, el⟩, k⟩ := h
    have hr2 : Room 2 _ := hr.mono (by decide)
    refine ⟨_, pss_cons (ps_if (pt_not (pt_val (pe_call FV hr2 rfl mV kV bV .nil pass0 (pa_cons (pv 1) pa_nil)))) pss_never pss_nil)
      (pss_cons (ps_if (pt_not (pt_val (pe_call FE hr rfl mE kE bE .nil pass0 (pa_cons (pv 1) (pa_cons (pv 2) pa_nil))))) pss_never pss_nil)
      (pss_cons (ps_fld (pv 0) (pe_callTy call_tupR (by rfl) mt (by decide +kernel) (pa_cons (pv 1) pa_nil)) rfl)
      (pss_one (ps_fld (pv 0) (pe_callTy call_tupR (by rfl) mt (by decide +kernel) (pa_cons (pe_callB (cr_sortER hr.units) (by rfl) ms (by decide +kernel) (pa_cons (pv 2) pa_nil)) pa_nil)) rfl)))), ?_⟩
    refine ⟨_, rfl, a, ns, rfl, na, n0, n8, nd, nm, fun H1 s1 => ⟨_, rfl, iteF ?_⟩⟩
    refine ⟨_, rfl, _, rfl, a, b, ns, ks, rfl, na.same s1, ea.same s1, fun p hp => s1 _ _ (ed p hp), eo, en, el, fun H2 s2 => ⟨_, rfl, iteF ?_⟩⟩
    have s12 := s1.trans s2
    refine ⟨_, rfl, a, _, rfl, na.same s12, fun t1 H3 s23 h1 => ?_⟩
    have s13 := s12.trans s23
    have g3 := s13 _ _ hg
    have gt1 : t1 ≠ g := ne_of h1 g3 (fun z => by cases z)
    refine ⟨_, rfl, g, C, dx, [], rfl, g3, T.cl, T.nV, by decide, ?_⟩
    have g4 : L2.upd H3 g (.ins C dx (putF "vertices" (.ref t1) [])) g = some (.ins C dx (putF "vertices" (.ref t1) [])) := upd_same
    have t4 : L2.upd H3 g (.ins C dx (putF "vertices" (.ref t1) [])) t1 = some (.tup (ns.map V.str)) := by rw [upd_ne gt1]; exact h1
    have old4 : ∀ {c : Addr} {o : HO}, c ≠ g → H c = some o → L2.upd H3 g (.ins C dx (putF "vertices" (.ref t1) [])) c = some o := fun n e => by rw [upd_ne n]; exact s13 _ _ e
    generalize L2.upd H3 g (.ins C dx (putF "vertices" (.ref t1) [])) = H4 at g4 t4 old4 ⊢
    have nin : ∀ {c : Addr} {xs : List V}, H c = some (.lst xs) → c ≠ g := fun e => ne_of e hg (fun z => by cases z)
    have nit : ∀ {c : Addr} {xs : List V}, H c = some (.tup xs) → c ≠ g := fun e => ne_of e hg (fun z => by cases z)
    have ea4 : RowAt H4 b (ks.map fun p => V.ref p.1) := ea.imp (fun e => old4 (nin e) e) (fun e => old4 (nit e) e)
    refine ⟨_, rfl, b, ks, rfl, ea4, fun p hp => old4 (nit (ed p hp)) (ed p hp), by omega, fun l hl => ?_⟩
    have s45 : Same H4 (L2.upd H4 l (.lst ((sortE ks).map fun p => V.ref p.1))) := Same.new hl
    have e5 : L2.upd H4 l (.lst ((sortE ks).map fun p => V.ref p.1)) l = some (.lst ((sortE ks).map fun p => V.ref p.1)) := upd_same
    generalize L2.upd H4 l (.lst ((sortE ks).map fun p => V.ref p.1)) = H5 at s45 e5 ⊢
    refine ⟨l, _, rfl, .inl e5, fun t2 H6 s56 h2 => ?_⟩
    have s46 := s45.trans s56
    have g6 := s46 _ _ g4
    have gt2 : t2 ≠ g := ne_of h2 g6 (fun z => by cases z)
    refine ⟨_, rfl, g, C, dx, _, rfl, g6, T.cl, T.nE, (by show 1 < 1000; decide), ?_⟩
    have all : ∀ {c : Addr} {o : HO}, c ≠ g → H c = some o → L2.upd H6 g (.ins C dx (putF "edges" (.ref t2) (putF "vertices" (.ref t1) []))) c = some o := fun {c o} n e => by
      rw [upd_ne n]; exact s46 _ _ (old4 n e)
    refine k _ ⟨⟨dx, t1, t2, upd_same, ?_, ?_⟩, fun p hp => all (nit (ed p ((sortE_perm ks).mem_iff.mp hp))) (ed p ((sortE_perm ks).mem_iff.mp hp))⟩ fun c o n e => all n e
    · rw [upd_ne gt1]; exact s46 _ _ t4
    · rw [upd_ne gt2]; exact h2
end
end CP
namespace CP
open PySem L2
abbrev E2 := Str × Str
/-- no common end -/
def apB (e f : E2) : Bool := decide (e.1 ≠ f.1 ∧ e.1 ≠ f.2 ∧ e.2 ≠ f.1 ∧ e.2 ≠ f.2)
/-- the pairs of the i-th edge and the later ones -/
def rowP (es : List E2) (i : Nat) : List (E2 × E2) := match es[i]? with
  | none => []
  | some e => ((es.drop (i + 1)).filter (apB e)).map fun f => (e, f)
/-- the rows of the first n edges -/
def upTo (r : Nat → List (E2 × E2)) : Nat → List (E2 × E2)
  | 0 => []
  | n + 1 => upTo r n ++ r n
def pairsOf (es : List E2) : List (E2 × E2) := upTo (rowP es) es.length
/-- a pair as a tracked tuple of two tracked edges -/
abbrev Pr := Addr × (Ed × Ed)
structure PrAt (H : Hp) (q : Pr) : Prop where
  ob : H q.1 = some (.tup [.ref q.2.1.1, .ref q.2.2.1])
  one : EdAt H q.2.1
  two : EdAt H q.2.2
theorem PrAt.same {H H' : Hp} {q : Pr} (h : PrAt H q) (s : Same H H') : PrAt H' q := ⟨s _ _ h.ob, s _ _ h.one, s _ _ h.two⟩
def prV (q : Pr) : E2 × E2 := (q.2.1.2, q.2.2.2)
/-- at l a list of pairs worth ps -/
def PrsAt (H : Hp) (l : Addr) (ps : List (E2 × E2)) : Prop := ∃ qs : List Pr, H l = some (.lst (qs.map fun q => V.ref q.1)) ∧ (∀ q ∈ qs, PrAt H q) ∧ qs.map prV = ps
theorem PrsAt.nil {H : Hp} {l : Addr} (h : H l = some (.lst [])) : PrsAt H l [] := ⟨[], h, (fun _ z => nomatch z), rfl⟩
/-- the list at l is the one thing that may have changed -/
theorem PrsAt.kept {H H' : Hp} {l : Addr} {ps : List (E2 × E2)} (h : PrsAt H l ps) (s : Same H H') : PrsAt H' l ps := by
  obtain ⟨qs, a, b, c⟩ := h
  exact ⟨qs, s _ _ a, fun q hq => (b q hq).same s, c⟩
theorem EdAt.keepL {H : Hp} {l : Addr} {xs : List V} {o : HO} {p : Ed} (hl : H l = some (.lst xs)) (h : EdAt H p) : EdAt (L2.upd H l o) p := by
  unfold EdAt; rw [upd_ne (ne_of h hl (fun z => by cases z))]; exact h
theorem PrAt.keepL {H : Hp} {l : Addr} {xs : List V} {o : HO} {q : Pr} (hl : H l = some (.lst xs)) (h : PrAt H q) : PrAt (L2.upd H l o) q :=
  ⟨by rw [upd_ne (ne_of h.ob hl (fun z => by cases z))]; exact h.ob, h.one.keepL hl, h.two.keepL hl⟩
/-- one more pair: its tuple at t is new -/
theorem PrsAt.push {H : Hp} {l t : Addr} {ps : List (E2 × E2)} {p q : Ed} (h : PrsAt H l ps) (ht : H t = some (.tup [.ref p.1, .ref q.1])) (hp : EdAt H p) (hq : EdAt H q) : ∃ qs : List V, H l = some (.lst qs) ∧ qs.length = ps.length ∧ PrsAt (L2.upd H l (.lst (qs ++ [.ref t]))) l (ps ++ [(p.2, q.2)]) := by
  obtain ⟨qs, a, b, c⟩ := h
  refine ⟨_, a, by rw [List.length_map, ← c, List.length_map], qs ++ [(t, p, q)], ?_, fun r hr => ?_, ?_⟩
  · rw [upd_same, List.map_append]; rfl
  · rcases List.mem_append.mp hr with hr | hr
    · exact (b r hr).keepL a
    · rw [List.mem_singleton.mp hr]; exact PrAt.keepL a ⟨ht, hp, hq⟩
  · rw [List.map_append, c]; rfl
theorem cut_drop (xs : List V) (i : Nat) : cutV xs (some ((i : Int) + 1)) none = xs.drop (i + 1) := by
  have e : ((i : Int) + 1) = ((i + 1 : Nat) : Int) := by omega
  unfold cutV
  rw [e, HT.sIx_nat, HT.sIx_none]
  by_cases c : i + 1 ≤ xs.length
  · rw [Nat.min_eq_left c, List.take_of_length_le (by rw [List.length_drop]; exact Nat.le_refl _)]
  · rw [Nat.min_eq_right (by omega), List.drop_of_length_le (by omega : xs.length ≤ i + 1), List.drop_length]; simp
theorem row_len (es : List E2) (i : Nat) : (rowP es i).length ≤ es.length := by
  unfold rowP
  cases es[i]? with
  | none => exact Nat.zero_le _
  | some e =>
    show (((es.drop (i + 1)).filter (apB e)).map fun f => (e, f)).length ≤ _
    rw [List.length_map]
    exact Nat.le_trans (List.length_filter_le _ _) (by rw [List.length_drop]; omega)
theorem upTo_len {r : Nat → List (E2 × E2)} {m : Nat} (h : ∀ i, (r i).length ≤ m) : ∀ n, (upTo r n).length ≤ n * m
  | 0 => Nat.zero_le _
  | n + 1 => by
    show (upTo r n ++ r n).length ≤ _
    rw [List.length_append, Nat.succ_mul]
    exact Nat.add_le_add (upTo_len h n) (h n)
end CP
namespace CP
open PySem L2
theorem perm_map {α β : Type} {f : α → β} {l m : List β} (h : l.Perm m) : ∀ ks : List α, m = ks.map f → ∃ js : List α, js.Perm ks ∧ js.map f = l := by
  induction h with
  | nil => intro ks e; cases ks with | nil => exact ⟨[], .refl _, rfl⟩ | cons _ _ => cases e
  | @cons x l1 l2 _ ih =>
    intro ks e
    cases ks with
    | nil => cases e
    | cons k ks =>
      injection e with e1 e2
      obtain ⟨js, p, q⟩ := ih ks e2
      exact ⟨k :: js, p.cons k, by rw [List.map_cons, q, e1]⟩
  | swap x y l =>
    intro ks e
    match ks, e with
    | a :: b :: ks, e =>
      injection e with e1 e2; injection e2 with e2 e3
      exact ⟨b :: a :: ks, List.Perm.swap _ _ _, by rw [List.map_cons, List.map_cons, e1, e2, e3]⟩
    | [a], e => simp at e
    | [], e => simp at e
  | trans _ _ ih1 ih2 =>
    intro ks e
    obtain ⟨js, p, q⟩ := ih2 ks e
    obtain ⟨is, p2, q2⟩ := ih1 js q.symm
    exact ⟨is, p2.trans p, q2⟩
def base8 : List Str := ["a", "ab", "b", "x", "zzzzzzzz", "node", "k", "c"]
theorem base8_nd : base8.Nodup := by decide +kernel
instance (z : Str) : Decidable (NameOk z) := decidable_of_iff (0 < z.length ∧ z.length ≤ 8 ∧ ∀ c ∈ z.cps.toList, c ∈ letters.cps.toList) ⟨fun ⟨a, b, c⟩ => ⟨a, b, c⟩, fun ⟨a, b, c⟩ => ⟨a, b, c⟩⟩
theorem base8_ok : ∀ z ∈ base8, NameOk z := by decide +kernel
theorem letters_small : ∀ c ∈ letters.cps.toList, c < 0x110000 := by decide +kernel
theorem NameOk.strOk {z : Str} (h : NameOk z) : PyData.strOk z = true := by
  unfold PyData.strOk
  rw [← Array.all_toList, List.all_eq_true]
  intro c hc
  simpa using letters_small c (h.all c hc)
/-- the edges of one name -/
def rowE (ns : List Str) (i : Nat) : List E2 := match ns[i]? with
  | none => []
  | some n => (ns.filter (ltS n)).map fun m => (n, m)
def upE (r : Nat → List E2) : Nat → List E2
  | 0 => []
  | n + 1 => upE r n ++ r n
theorem rowE_mem {ns : List Str} {i : Nat} {e : E2} (h : e ∈ rowE ns i) : ns[i]? = some e.1 ∧ e.2 ∈ ns ∧ ltS e.1 e.2 = true := by
  unfold rowE at h
  cases q : ns[i]? with
  | none => rw [q] at h; cases h
  | some n =>
    rw [q] at h
    obtain ⟨m, hm, rfl⟩ := List.mem_map.mp h
    exact ⟨rfl, (List.mem_filter.mp hm).1, (List.mem_filter.mp hm).2⟩
theorem upE_mem {ns : List Str} : ∀ {n : Nat} {e : E2}, e ∈ upE (rowE ns) n → ∃ i, i < n ∧ e ∈ rowE ns i
  | 0, e, h => nomatch h
  | n + 1, e, h => by
    rcases List.mem_append.mp h with h | h
    · obtain ⟨i, a, b⟩ := upE_mem h; exact ⟨i, by omega, b⟩
    · exact ⟨n, by omega, h⟩
theorem upE_ok {ns : List Str} {n : Nat} {e : E2} (h : e ∈ upE (rowE ns) n) : EdOk ns e := by
  obtain ⟨i, _, h⟩ := upE_mem h
  obtain ⟨a, b, c⟩ := rowE_mem h
  exact ⟨List.mem_of_getElem? a, b, c⟩
theorem nodup_ne {α : Type} {l : List α} (nd : l.Nodup) {i j : Nat} {x : α} (hi : l[i]? = some x) (hj : l[j]? = some x) : i = j := by
  obtain ⟨a, e1⟩ := List.getElem?_eq_some_iff.mp hi
  obtain ⟨b, e2⟩ := List.getElem?_eq_some_iff.mp hj
  rcases Nat.lt_trichotomy i j with c | c | c
  · exact absurd (e1.trans e2.symm) ((List.pairwise_iff_getElem.mp nd) i j a b c)
  · exact c
  · exact absurd (e2.trans e1.symm) ((List.pairwise_iff_getElem.mp nd) j i b a c)
theorem rowE_nd {ns : List Str} (nd : ns.Nodup) (i : Nat) : (rowE ns i).Nodup := by
  unfold rowE
  cases ns[i]? with
  | none => exact List.nodup_nil
  | some n => exact List.Pairwise.map _ (fun x y h e => h (by injection e)) (nd.filter _)
theorem upE_nd {ns : List Str} (nd : ns.Nodup) : ∀ n, (upE (rowE ns) n).Nodup
  | 0 => List.nodup_nil
  | n + 1 => by
    refine List.nodup_append.mpr ⟨upE_nd nd n, rowE_nd nd n, fun x hx y hy e => ?_⟩
    subst e
    obtain ⟨i, hi, h⟩ := upE_mem hx
    have := nodup_ne nd (rowE_mem h).1 (rowE_mem hy).1
    omega
theorem rowE_len (ns : List Str) (i : Nat) : (rowE ns i).length ≤ ns.length := by
  unfold rowE
  cases ns[i]? with
  | none => exact Nat.zero_le _
  | some n => show ((ns.filter (ltS n)).map _).length ≤ _; rw [List.length_map]; exact List.length_filter_le _ _
theorem upE_len {r : Nat → List E2} {m : Nat} (h : ∀ i, (r i).length ≤ m) : ∀ n, (upE r n).length ≤ n * m
  | 0 => Nat.zero_le _
  | n + 1 => by
    show (upE r n ++ r n).length ≤ _
    rw [List.length_append, Nat.succ_mul]
    exact Nat.add_le_add (upE_len h n) (h n)
/-- at l a list of edges worth es -/
def EdsAt (H : Hp) (l : Addr) (es : List E2) : Prop := ∃ ks : List Ed, H l = some (.lst (ks.map fun p => V.ref p.1)) ∧ (∀ p ∈ ks, EdAt H p) ∧ ks.map (·.2) = es
theorem EdsAt.kept {H H' : Hp} {l : Addr} {es : List E2} (h : EdsAt H l es) (s : Same H H') : EdsAt H' l es := by
  obtain ⟨ks, a, b, c⟩ := h
  exact ⟨ks, s _ _ a, fun p hp => s _ _ (b p hp), c⟩
theorem EdsAt.push {H : Hp} {l t : Addr} {es : List E2} {u v : Str} (h : EdsAt H l es) (ht : H t = some (.tup [.str u, .str v])) : ∃ zs : List V, H l = some (.lst zs) ∧ zs.length = es.length ∧ EdsAt (L2.upd H l (.lst (zs ++ [.ref t]))) l (es ++ [(u, v)]) := by
  obtain ⟨ks, a, b, c⟩ := h
  refine ⟨_, a, by rw [List.length_map, ← c, List.length_map], ks ++ [(t, u, v)], ?_, fun p hp => ?_, ?_⟩
  · rw [upd_same, List.map_append]; rfl
  · rcases List.mem_append.mp hp with hp | hp
    · exact (b p hp).keepL a
    · rw [List.mem_singleton.mp hp]; exact EdAt.keepL a ht
  · rw [List.map_append, c]; rfl
/-- l.extend(m) -/
theorem EdsAt.ext {H : Hp} {l m : Addr} {es fs : List E2} (h : EdsAt H l es) (hm : EdsAt H m fs) : ∃ zs ys : List V, H l = some (.lst zs) ∧ H m = some (.lst ys) ∧ zs.length = es.length ∧ ys.length = fs.length ∧ EdsAt (L2.upd H l (.lst (zs ++ ys))) l (es ++ fs) := by
  obtain ⟨ks, a, b, c⟩ := h
  obtain ⟨js, a2, b2, c2⟩ := hm
  refine ⟨_, _, a, a2, by rw [List.length_map, ← c, List.length_map], by rw [List.length_map, ← c2, List.length_map], ks ++ js, ?_, fun p hp => ?_, ?_⟩
  · rw [upd_same, List.map_append]
  · rcases List.mem_append.mp hp with hp | hp
    · exact (b p hp).keepL a
    · exact (b2 p hp).keepL a
  · rw [List.map_append, c, c2]
end CP
namespace CP
open PySem L2
def spGraph : Sp := fun vs H Q _ => ∃ (a : Addr) (mo : Int), vs = [.ref a, .int mo] ∧ 0 < mo ∧ mo ≤ 8 ∧ Src H a ∧
  ∀ p n e ns ks H', H' p = some (.tup [.ref n, .ref e]) → ArgsOk H' n e ns ks → (∀ z ∈ ns, z ∈ base8) → H n = none → H e = none → Src H' a → But a H H' → Q (.ref p) H'
theorem cut_take (xs : List V) (m : Int) (h : 0 ≤ m) : cutV xs none (some m) = xs.take m.toNat := by
  obtain ⟨k, rfl⟩ : ∃ k : Nat, m = k := ⟨m.toNat, by omega⟩
  unfold cutV
  rw [HT.sIx_nat, HT.sIx_none, List.drop_zero, Nat.sub_zero, Int.toNat_natCast]
  by_cases c : k ≤ xs.length
  · rw [Nat.min_eq_left c]
  · rw [Nat.min_eq_right (by omega), List.take_length, List.take_of_length_le (by omega)]
theorem But.none {a b : Addr} {H H' : Hp} (B : But a H H') (n : b ≠ a) (h : H' b = none) : H b = none := by
  cases e : H b with
  | none => rfl
  | some o => rw [B b o n e] at h; cases h
theorem Src.but {a : Addr} {H H' : Hp} (S : Src H a) (s : Same H H') : Src H' a := by
  obtain ⟨x, y, z, e⟩ := S; exact ⟨x, y, z, s _ _ e⟩
theorem Src.ne {a b : Addr} {H : Hp} (S : Src H a) (h : H b = none) : b ≠ a := fun e => by
  obtain ⟨x, y, z, q⟩ := S
  rw [e, q] at h; cases h
theorem EdAt.but {a : Addr} {H H' : Hp} {p : Ed} (S : Src H a) (B : But a H H') (h : EdAt H p) : EdAt H' p := by
  obtain ⟨x, y, z, e⟩ := S
  exact B _ _ (ne_of h e (fun z => by cases z)) h
section
variable {P : Program} {w : World} {K : PySem.W.Frag} {mg : Str → Option Value} {base : Heap}
theorem scGraph : FnScope ["_law_source", "_law_most", "_law_names", "_law_edges", "_law_name", "_law_limit", "_law_end"] ["_law_source", "_law_most"] (defScope sGraph) := ⟨rfl, rfl, rfl, by decide +kernel, rfl, by decide +kernel, by decide +kernel⟩
theorem ok_graph {f fN fM fO : Addr} {fd fdN fdM fdO : FuncData} (F : Fun K "_law_graph" "_law_graph" sGraph f fd) (ml : mg "len" = none) (mmin : mg "min" = none)
    (mN : mg "_law_next" = some (.ref fN)) (GN : FnOk P w K mg base CX0 1 fN fdN ["_law_source", "_law_many"] spNext) (kN : PySem.W.keepIn K (.ref fN) = true) (bN : Binds K fdN ["_law_source", "_law_many"] [])
    (mM : mg "_law_mixed" = some (.ref fM)) (GM : FnOk P w K mg base CX0 2 fM fdM ["_law_source", "_law_some"] (spMixed K)) (kM : PySem.W.keepIn K (.ref fM) = true) (bM : Binds K fdM ["_law_source", "_law_some"] [])
    (mO : mg "_law_one" = some (.ref fO)) (GO : FnOk P w K mg base CX0 2 fO fdO ["_law_source", "_law_some"] (spOne K)) (kO : PySem.W.keepIn K (.ref fO) = true) (bO : Binds K fdO ["_law_source", "_law_some"] []) :
    FnOk P w K mg base CX0 3 f fd ["_law_source", "_law_most"] spGraph := by
  refine F.ok scGraph (fun vs H Q E h => ?_) (fun cdv A outer s H vs Q E hr h => ?_)
  · obtain ⟨a, mo, rfl, _⟩ := h; rfl
  · obtain ⟨a, mo, rfl, mo0, mo8, S0, k⟩ := h
    have hr1 : Room 1 _ := hr.mono (by decide)
    refine ⟨_, pss_cons (ps_set (i := 2) scGraph.nd rfl (Or.inl rfl) (pe_slice sl_list (pe_call GM hr rfl mM kM bM .nil pass0 (pa_cons (pv 0) (pa_cons (pe_lst (pa_cons pe_str (pa_cons pe_str (pa_cons pe_str (pa_cons pe_str (pa_cons pe_str (pa_cons pe_str (pa_cons pe_str (pa_cons pe_str pa_nil))))))))) pa_nil)))
        po_none (po_some (pe_op op_add pe_int (pe_call GN hr1 rfl mN kN bN .nil pass0 (pa_cons (pv 0) (pa_cons (pv 1) pa_nil)))))))
      (pss_cons (ps_set (i := 3) scGraph.nd rfl (Or.inl rfl) (pe_lst pa_nil))
      (pss_cons (ps_for PassesOwn.never rfl (pi_list (pv 2)) (pg_name (i := 4) scGraph.nd rfl (Or.inr rfl))
        (pss_one (ps_expr (pe_bm PySem.F.plainAttrs_list PySem.F.slot_list_extend PySem.F.type_list_extend mt_extend (pv 3) (pa_cons (pe_lc (own := [("_law_end", 6)]) (g := gName 6) rfl scGraph.nd (pi_list (pv 2))
          (blkOk_by (own := [("_law_end", 6)]) (N := ["_law_source", "_law_most", "_law_names", "_law_edges", "_law_name", "_law_limit", "_law_end"]) (sc := defScope sGraph) (by decide +kernel))
          (fun _ _ _ _ _ => pg_name (i := 6) scGraph.nd rfl (Or.inl rfl)) (fun _ _ _ _ _ => pts_one (pt_cmpR op_lt_str (pv 4) (pv 6) (nomark _))) (fun _ _ _ _ _ => pe_tup (pa_cons (pv 4) (pa_cons (pv 6) pa_nil)))) pa_nil)))))
      (pss_cons (ps_set (i := 3) scGraph.nd rfl (Or.inl rfl) (pe_call GM hr rfl mM kM bM .nil pass0 (pa_cons (pv 0) (pa_cons (pv 3) pa_nil))))
      (pss_cons (ps_set (i := 5) scGraph.nd rfl (Or.inl rfl) (pe_call GO hr rfl mO kO bO .nil pass0 (pa_cons (pv 0) (pa_cons (pe_lst (pa_cons (pe_callB call_len_seq (by rfl) ml PySem.boot_len (pa_cons (pv 3) pa_nil)) (pa_cons (pe_op op_add (pe_callB call_len_seq (by rfl) ml PySem.boot_len (pa_cons (pv 2) pa_nil)) pe_int)
        (pa_cons (pe_op op_mul pe_int (pe_callB call_len_seq (by rfl) ml PySem.boot_len (pa_cons (pv 2) pa_nil))) (pa_cons (pe_call GN hr1 rfl mN kN bN .nil pass0 (pa_cons (pv 0) (pa_cons (pe_op op_add (pe_callB call_len_seq (by rfl) ml PySem.boot_len (pa_cons (pv 3) pa_nil)) pe_int) pa_nil))) pa_nil))))) pa_nil))))
      (pss_one (ps_ret (pe_tup (pa_cons (pv 2) (pa_cons (pe_slice sl_list (pv 3) po_none (po_some (pe_callB (call_min2 rfl) (by rfl) mmin (by decide +kernel) (pa_cons (pv 5) (pa_cons pe_int pa_nil))))) pa_nil))))))))), ?_⟩
    refine ⟨_, rfl, by show 8 ≤ sizeLine; decide, fun b hb => ?_⟩
    have ba := S0.ne hb
    have s1 : Same H (L2.upd H b (.lst (base8.map V.str))) := Same.new hb
    refine ⟨a, b, base8.map V.str, rfl, S0.but s1, ba.symm, upd_same, fun x hx => ?_, by decide, fun p ys H1 pm hp0 hp1 S1 B1 => ?_⟩
    · obtain ⟨z, hz, rfl⟩ := List.mem_map.mp hx
      exact .txt (base8_ok z hz).strOk
    obtain ⟨bs, pb, rfl⟩ := perm_map pm base8 rfl
    have B01 : But a H H1 := (But.of_same s1).trans B1
    have pa : p ≠ a := (S0.but s1).ne hp0
    refine ⟨_, rfl, _, rfl, a, mo, rfl, S1, mo0, by omega, fun r H2 r0 r1 S2 B2 => ⟨_, _, rfl, rfl, _, rfl, p, _, rfl, SqL.of (B2 p _ pa hp1), fun n hn => ?_⟩⟩
    have e1 : cutV (bs.map V.str) none (some (1 + r)) = (bs.take (1 + r).toNat).map V.str := by rw [cut_take _ _ (by omega), List.map_take]
    rw [e1]
    generalize hns : bs.take (1 + r).toNat = ns
    have len8 : bs.length = 8 := by rw [pb.length_eq]; rfl
    have nsl : ns.length = (1 + r).toNat := by rw [← hns, List.length_take, len8]; omega
    have n0 : 0 < ns.length := by omega
    have n8 : ns.length ≤ 8 := by omega
    have nsub : ∀ z ∈ ns, z ∈ base8 := fun z hz => pb.mem_iff.mp (List.mem_of_mem_take (hns ▸ hz))
    have nnd : ns.Nodup := by rw [← hns]; exact ((pb.nodup_iff).mpr base8_nd).sublist (List.take_sublist _ _)
    have nok : ∀ z ∈ ns, NameOk z := fun z hz => base8_ok z (nsub z hz)
    have na := S2.ne hn
    have B02 := B01.trans B2
    have n00 : H n = none := B02.none na hn
    refine ⟨by show 0 ≤ sizeLine; decide, fun e he => ?_⟩
    generalize hH3 : L2.upd H2 n (.lst (ns.map V.str)) = H3 at he ⊢
    have s23 : Same H2 H3 := by rw [← hH3]; exact Same.new hn
    have n3 : H3 n = some (.lst (ns.map V.str)) := by rw [← hH3]; exact upd_same
    have S3 := S2.but s23
    have ea := S3.ne he
    have B03 : But a H H3 := B02.trans (But.of_same s23)
    have e00 : H e = none := B03.none ea he
    refine ⟨_, rfl, n, rfl, ⟨_, SqL.of (Same.new he _ _ n3)⟩, for_list (K := K) (a := n) (xs := ns.map V.str) (fun i σ H' => ∃ v4, σ = [some (.ref a), some (.int mo), some (.ref n), some (.ref e), v4, none, none] ∧ Same H3 H' ∧ EdsAt H' e (upE (rowE ns) i))
      ⟨_, rfl, Same.new he, [], upd_same, (fun _ z => nomatch z), rfl⟩ (fun i σ H' _ ⟨_, _, s, _⟩ => SqL.of (s _ _ n3)) ?_ ?_⟩
    · rintro i x σ H4 hi ⟨v4, rfl, s4, R4⟩
      have li : i < ns.length := by have := (List.getElem?_eq_some_iff.mp hi).1; rw [List.length_map] at this; exact this
      rw [List.getElem?_map, List.getElem?_eq_getElem li] at hi
      obtain rfl : V.str ns[i] = x := Option.some.inj hi
      obtain ⟨_, r1, _⟩ := id R4
      refine ⟨_, rfl, .inl ⟨rfl, _, SqL.of r1⟩, _, rfl, n, rfl, ⟨_, SqL.of (s4 _ _ n3)⟩, fun D hD => lc_list (K := K) (a := n) (xs := ns.map V.str) (fun j H' => Same H4 H' ∧ EdsAt H' D (((ns.take j).filter (ltS ns[i])).map fun m => (ns[i], m)))
        ⟨Same.new hD, [], upd_same, (fun _ z => nomatch z), rfl⟩ (fun j H' _ ⟨s, _⟩ => SqL.of (s _ _ (s4 _ _ n3))) ?_ ?_⟩
      · rintro j y H5 hj ⟨s5, R5⟩
        have lj : j < ns.length := by have := (List.getElem?_eq_some_iff.mp hj).1; rw [List.length_map] at this; exact this
        rw [List.getElem?_map, List.getElem?_eq_getElem lj] at hj
        obtain rfl : V.str ns[j] = y := Option.some.inj hj
        have tk : ns.take (j + 1) = ns.take j ++ [ns[j]] := take_one (List.getElem?_eq_getElem lj)
        refine ⟨rfl, _, rfl, _, rfl, _, _, rfl, rfl, _, rfl, ?_⟩
        show if ltS ns[i] ns[j] = true then _ else _
        by_cases c : ltS ns[i] ns[j] = true
        · rw [c]
          refine iteT ⟨_, rfl, _, rfl, by show 2 ≤ sizeLine; decide, fun t ht => ?_⟩
          have s6 : Same H5 (L2.upd H5 t (.tup [.str ns[i], .str ns[j]])) := Same.new ht
          obtain ⟨zs, z1, z2, z3⟩ := (R5.kept s6).push (t := t) upd_same
          refine ⟨zs, z1, ?_, Same.grow hD (s5.trans s6), ?_⟩
          · rw [z2, List.length_map, sizeLine_eq]
            have := List.length_filter_le (ltS ns[i]) (ns.take j)
            rw [List.length_take] at this; omega
          · rw [tk, List.filter_append, List.map_append]
            have q : [ns[j]].filter (ltS ns[i]) = [ns[j]] := by simp [c]
            rw [q]; exact z3
        · have c' : ltS ns[i] ns[j] = false := by simpa using c
          rw [c']
          refine iteF ⟨s5, ?_⟩
          rw [tk, List.filter_append]
          have q : [ns[j]].filter (ltS ns[i]) = [] := by simp [c']
          rw [q, List.append_nil]; exact R5
      · rintro H5 ⟨s5, R5⟩
        rw [List.length_map, List.take_length] at R5
        have er : rowE ns i = (ns.filter (ltS ns[i])).map fun m => (ns[i], m) := by
          unfold rowE; rw [List.getElem?_eq_getElem li]
        rw [← er] at R5
        obtain ⟨zs, ys, z1, z2, z3, z4, z5⟩ := (R4.kept s5).ext R5
        refine ⟨e, D, zs, ys, rfl, rfl, z1, z2, ?_, ?_⟩
        · rw [z3, z4, sizeLine_eq]
          have q1 := upE_len (m := ns.length) (rowE_len ns) i
          have q2 := rowE_len ns i
          have q3 : i * ns.length ≤ 8 * 8 := Nat.mul_le_mul (by omega) n8
          omega
        · exact ⟨_, rfl, Same.grow he (s4.trans s5), z5⟩
    · rintro σ H4 ⟨v4, rfl, s4, ks, k1, k2, k3⟩
      rw [List.length_map] at k3
      have S4 := S3.but s4
      have klen : ks.length ≤ 64 := by
        have q1 := upE_len (m := ns.length) (rowE_len ns) ns.length
        have q3 : ns.length * ns.length ≤ 8 * 8 := Nat.mul_le_mul n8 n8
        have q4 := congrArg List.length k3
        rw [List.length_map] at q4; omega
      have kok : ∀ p ∈ ks, EdOk ns p.2 := fun p hp => upE_ok (n := ns.length) (by rw [← k3]; exact List.mem_map.mpr ⟨p, hp, rfl⟩)
      refine ⟨_, rfl, _, rfl, a, e, _, rfl, S4, ea.symm, k1, fun x hx => ?_, by rw [List.length_map]; omega, fun p2 ys H5 pm2 hp20 hp21 S5 B5 => ?_⟩
      · obtain ⟨p, hp, rfl⟩ := List.mem_map.mp hx
        obtain ⟨o1, o2, _⟩ := kok p hp
        exact .edge (k2 p hp) (nok _ o1).strOk (nok _ o2).strOk
      obtain ⟨js, pj, rfl⟩ := perm_map pm2 ks rfl
      have p2a := S4.ne hp20
      have n4 := s4 _ _ n3
      have n5 := B5 n _ na n4
      have j5 : ∀ p ∈ js, EdAt H5 p := fun p hp => EdAt.but S4 B5 (k2 p (pj.mem_iff.mp hp))
      have jlen : js.length ≤ 64 := by rw [pj.length_eq]; exact klen
      refine ⟨_, rfl, _, rfl, p2, _, rfl, .inl (SqL.of hp21), _, rfl, n, _, rfl, .inl (SqL.of n5), _, _, rfl, rfl, _, rfl, n, _, rfl, .inl (SqL.of n5), _, _, rfl, rfl, .inl ⟨by decide, by decide⟩, _, rfl, _, rfl, p2, _, rfl, .inl (SqL.of hp21), _, _, rfl, rfl, a, _, rfl, S5, by omega, by rw [List.length_map]; omega, fun r2 H6 r20 r21 S6 B6 => ?_⟩
      refine ⟨by show 4 ≤ sizeLine; decide, fun q hq => ?_⟩
      have qa := S6.ne hq
      have s67 : Same H6 (L2.upd H6 q (.lst [.int (js.map fun p => V.ref p.1).length, .int ((ns.map V.str).length + 1), .int (2 * (ns.map V.str).length), .int r2])) := Same.new hq
      refine ⟨a, q, _, rfl, S6.but s67, qa.symm, SqL.of upd_same, upd_same, by show 0 < 4; decide, by show 4 < 100000; decide, fun x H7 hx S7 B7 => ?_⟩
      obtain ⟨m, m0, rfl⟩ : ∃ m : Int, 0 ≤ m ∧ x = .int m := by
        simp only [List.mem_cons, List.not_mem_nil, or_false] at hx
        rcases hx with rfl | rfl | rfl | rfl
        · exact ⟨_, by omega, rfl⟩
        · exact ⟨_, by omega, rfl⟩
        · exact ⟨_, by omega, rfl⟩
        · exact ⟨_, r20, rfl⟩
      have B57 : But a H5 H7 := (B6.trans (But.of_same s67)).trans B7
      have p7 := B57 p2 _ p2a hp21
      have n7 := B57 n _ na n5
      refine ⟨_, rfl, _, rfl, _, rfl, _, _, rfl, _, rfl, p2, _, rfl, SqL.of p7, fun e2 he2 => ?_⟩
      have e2a := S7.ne he2
      generalize hm : (if (14 : Int) < m then 14 else m) = m2
      have m20 : 0 ≤ m2 := by rw [← hm]; split <;> omega
      have m18 : m2 ≤ 14 := by rw [← hm]; split <;> omega
      rw [cut_take _ _ m20, ← List.map_take]
      refine ⟨by show 2 ≤ sizeLine; decide, fun t ht => ?_⟩
      have B07 : But a H H7 := (((B03.trans (But.of_same s4)).trans B5).trans B57)
      have s78 : Same H7 (L2.upd H7 e2 (.lst ((js.take m2.toNat).map fun p => V.ref p.1))) := Same.new he2
      have s79 : Same H7 (L2.upd (L2.upd H7 e2 (.lst ((js.take m2.toNat).map fun p => V.ref p.1))) t (.tup [.ref n, .ref e2])) := s78.trans (Same.new ht)
      have jsub : ∀ p ∈ js.take m2.toNat, p ∈ js := fun p hp => List.mem_of_mem_take hp
      refine k t n e2 ns (js.take m2.toNat) _ upd_same ⟨s79 _ _ n7, n0, n8, nnd, nok, ?_, fun p hp => s79 _ _ (EdAt.but S5 B57 (j5 p (jsub p hp))), fun p hp => kok p (pj.mem_iff.mp (jsub p hp)), ?_, ?_⟩ nsub n00 (B07.none e2a he2) (S7.but s79) (B07.trans (But.of_same s79))
      · rw [upd_ne (ne_of_none (upd_same (H := H7) (a := e2)) ht)]; exact upd_same
      · have nd1 : (js.map (·.2)).Nodup := (pj.map (·.2)).nodup_iff.mpr (by rw [k3]; exact upE_nd nnd _)
        rw [List.map_take]; exact nd1.sublist (List.take_sublist _ _)
      · rw [List.length_take]; omega
end
end CP
namespace CP
open PySem L2
abbrev sFull : Stmt := top 37
def spFull : Sp := fun vs H Q _ => ∃ a : Addr, vs = [.ref a] ∧ Src H a ∧
  ∀ p n e ns ks H', H' p = some (.tup [.ref n, .ref e]) → ArgsOk H' n e ns ks → (∀ z ∈ ns, z ∈ base8) → H n = none → H e = none → Src H' a → But a H H' → Q (.ref p) H'
section
variable {P : Program} {w : World} {K : PySem.W.Frag} {mg : Str → Option Value} {base : Heap}
theorem scFull : FnScope ["_law_source", "_law_names", "_law_edges", "_law_name", "_law_end"] ["_law_source"] (defScope sFull) := ⟨rfl, rfl, rfl, by decide +kernel, rfl, by decide +kernel, by decide +kernel⟩
theorem ok_full {f fM : Addr} {fd fdM : FuncData} (F : Fun K "_law_full" "_law_full" sFull f fd)
    (mM : mg "_law_mixed" = some (.ref fM)) (GM : FnOk P w K mg base CX0 2 fM fdM ["_law_source", "_law_some"] (spMixed K)) (kM : PySem.W.keepIn K (.ref fM) = true) (bM : Binds K fdM ["_law_source", "_law_some"] []) :
    FnOk P w K mg base CX0 3 f fd ["_law_source"] spFull := by
  refine F.ok scFull (fun vs H Q E h => ?_) (fun cdv A outer s H vs Q E hr h => ?_)
  · obtain ⟨a, rfl, _⟩ := h; rfl
  · obtain ⟨a, rfl, S0, k⟩ := h
    refine ⟨_, pss_cons (ps_set (i := 1) scFull.nd rfl (Or.inl rfl) (pe_call GM hr rfl mM kM bM .nil pass0 (pa_cons (pv 0) (pa_cons (pe_lst (pa_cons pe_str (pa_cons pe_str (pa_cons pe_str (pa_cons pe_str (pa_cons pe_str (pa_cons pe_str (pa_cons pe_str (pa_cons pe_str pa_nil))))))))) pa_nil))))
      (pss_cons (ps_set (i := 2) scFull.nd rfl (Or.inl rfl) (pe_lst pa_nil))
      (pss_cons (ps_for PassesOwn.never rfl (pi_list (pv 1)) (pg_name (i := 3) scFull.nd rfl (Or.inr rfl))
        (pss_one (ps_expr (pe_bm PySem.F.plainAttrs_list PySem.F.slot_list_extend PySem.F.type_list_extend mt_extend (pv 2) (pa_cons (pe_lc (own := [("_law_end", 4)]) (g := gName 4) rfl scFull.nd (pi_list (pv 1))
          (blkOk_by (own := [("_law_end", 4)]) (N := ["_law_source", "_law_names", "_law_edges", "_law_name", "_law_end"]) (sc := defScope sFull) (by decide +kernel))
          (fun _ _ _ _ _ => pg_name (i := 4) scFull.nd rfl (Or.inl rfl)) (fun _ _ _ _ _ => pts_one (pt_cmpR op_lt_str (pv 3) (pv 4) (nomark _))) (fun _ _ _ _ _ => pe_tup (pa_cons (pv 3) (pa_cons (pv 4) pa_nil)))) pa_nil)))))
      (pss_one (ps_ret (pe_tup (pa_cons (pv 1) (pa_cons (pe_slice sl_list (pe_call GM hr rfl mM kM bM .nil pass0 (pa_cons (pv 0) (pa_cons (pv 2) pa_nil))) po_none (po_some pe_int)) pa_nil))))))), ?_⟩
    refine ⟨_, rfl, by show 8 ≤ sizeLine; decide, fun b hb => ?_⟩
    have ba := S0.ne hb
    have s1 : Same H (L2.upd H b (.lst (base8.map V.str))) := Same.new hb
    refine ⟨a, b, base8.map V.str, rfl, S0.but s1, ba.symm, upd_same, fun x hx => ?_, by decide, fun n ys H2 pm hn n2 S2 B1 => ?_⟩
    · obtain ⟨z, hz, rfl⟩ := List.mem_map.mp hx
      exact .txt (base8_ok z hz).strOk
    obtain ⟨ns, pb, rfl⟩ := perm_map pm base8 rfl
    have B02 : But a H H2 := (But.of_same s1).trans B1
    have na : n ≠ a := (S0.but s1).ne hn
    have n00 : H n = none := s1.free hn
    have nsl : ns.length = 8 := by rw [pb.length_eq]; rfl
    have n0 : 0 < ns.length := by omega
    have n8 : ns.length ≤ 8 := by omega
    have nnd : ns.Nodup := (pb.nodup_iff).mpr base8_nd
    have nok : ∀ z ∈ ns, NameOk z := fun z hz => base8_ok z (pb.mem_iff.mp hz)
    refine ⟨by show 0 ≤ sizeLine; decide, fun e he => ?_⟩
    have ea := S2.ne he
    have e00 : H e = none := B02.none ea he
    refine ⟨_, rfl, n, rfl, ⟨_, SqL.of (Same.new he _ _ n2)⟩, for_list (K := K) (a := n) (xs := ns.map V.str) (fun i σ H' => ∃ v4, σ = [some (.ref a), some (.ref n), some (.ref e), v4, none] ∧ Same H2 H' ∧ EdsAt H' e (upE (rowE ns) i))
      ⟨_, rfl, Same.new he, [], upd_same, (fun _ z => nomatch z), rfl⟩ (fun i σ H' _ ⟨_, _, s, _⟩ => SqL.of (s _ _ n2)) ?_ ?_⟩
    · rintro i x σ H4 hi ⟨v4, rfl, s4, R4⟩
      have li : i < ns.length := by have := (List.getElem?_eq_some_iff.mp hi).1; rw [List.length_map] at this; exact this
      rw [List.getElem?_map, List.getElem?_eq_getElem li] at hi
      obtain rfl : V.str ns[i] = x := Option.some.inj hi
      obtain ⟨_, r1, _⟩ := id R4
      refine ⟨_, rfl, .inl ⟨rfl, _, SqL.of r1⟩, _, rfl, n, rfl, ⟨_, SqL.of (s4 _ _ n2)⟩, fun D hD => lc_list (K := K) (a := n) (xs := ns.map V.str) (fun j H' => Same H4 H' ∧ EdsAt H' D (((ns.take j).filter (ltS ns[i])).map fun m => (ns[i], m)))
        ⟨Same.new hD, [], upd_same, (fun _ z => nomatch z), rfl⟩ (fun j H' _ ⟨s, _⟩ => SqL.of (s _ _ (s4 _ _ n2))) ?_ ?_⟩
      · rintro j y H5 hj ⟨s5, R5⟩
        have lj : j < ns.length := by have := (List.getElem?_eq_some_iff.mp hj).1; rw [List.length_map] at this; exact this
        rw [List.getElem?_map, List.getElem?_eq_getElem lj] at hj
        obtain rfl : V.str ns[j] = y := Option.some.inj hj
        have tk : ns.take (j + 1) = ns.take j ++ [ns[j]] := take_one (List.getElem?_eq_getElem lj)
        refine ⟨rfl, _, rfl, _, rfl, _, _, rfl, rfl, _, rfl, ?_⟩
        show if ltS ns[i] ns[j] = true then _ else _
        by_cases c : ltS ns[i] ns[j] = true
        · rw [c]
          refine iteT ⟨_, rfl, _, rfl, by show 2 ≤ sizeLine; decide, fun t ht => ?_⟩
          have s6 : Same H5 (L2.upd H5 t (.tup [.str ns[i], .str ns[j]])) := Same.new ht
          obtain ⟨zs, z1, z2, z3⟩ := (R5.kept s6).push (t := t) upd_same
          refine ⟨zs, z1, ?_, Same.grow hD (s5.trans s6), ?_⟩
          · rw [z2, List.length_map, sizeLine_eq]
            have := List.length_filter_le (ltS ns[i]) (ns.take j)
            rw [List.length_take] at this; omega
          · rw [tk, List.filter_append, List.map_append]
            have q : [ns[j]].filter (ltS ns[i]) = [ns[j]] := by simp [c]
            rw [q]; exact z3
        · have c' : ltS ns[i] ns[j] = false := by simpa using c
          rw [c']
          refine iteF ⟨s5, ?_⟩
          rw [tk, List.filter_append]
          have q : [ns[j]].filter (ltS ns[i]) = [] := by simp [c']
          rw [q, List.append_nil]; exact R5
      · rintro H5 ⟨s5, R5⟩
        rw [List.length_map, List.take_length] at R5
        have er : rowE ns i = (ns.filter (ltS ns[i])).map fun m => (ns[i], m) := by
          unfold rowE; rw [List.getElem?_eq_getElem li]
        rw [← er] at R5
        obtain ⟨zs, ys, z1, z2, z3, z4, z5⟩ := (R4.kept s5).ext R5
        refine ⟨e, D, zs, ys, rfl, rfl, z1, z2, ?_, ?_⟩
        · rw [z3, z4, sizeLine_eq]
          have q1 := upE_len (m := ns.length) (rowE_len ns) i
          have q2 := rowE_len ns i
          have q3 : i * ns.length ≤ 8 * 8 := Nat.mul_le_mul (by omega) n8
          omega
        · exact ⟨_, rfl, Same.grow he (s4.trans s5), z5⟩
    · rintro σ H4 ⟨v4, rfl, s4, ks, k1, k2, k3⟩
      rw [List.length_map] at k3
      have S4 := S2.but s4
      have klen : ks.length ≤ 64 := by
        have q1 := upE_len (m := ns.length) (rowE_len ns) ns.length
        have q3 : ns.length * ns.length ≤ 8 * 8 := Nat.mul_le_mul n8 n8
        have q4 := congrArg List.length k3
        rw [List.length_map] at q4; omega
      have kok : ∀ p ∈ ks, EdOk ns p.2 := fun p hp => upE_ok (n := ns.length) (by rw [← k3]; exact List.mem_map.mpr ⟨p, hp, rfl⟩)
      refine ⟨_, rfl, _, rfl, _, rfl, a, e, _, rfl, S4, ea.symm, k1, fun x hx => ?_, by rw [List.length_map]; omega, fun p2 ys H5 pm2 hp20 hp21 S5 B5 => ?_⟩
      · obtain ⟨p, hp, rfl⟩ := List.mem_map.mp hx
        obtain ⟨o1, o2, _⟩ := kok p hp
        exact .edge (k2 p hp) (nok _ o1).strOk (nok _ o2).strOk
      obtain ⟨js, pj, rfl⟩ := perm_map pm2 ks rfl
      have p2a := S4.ne hp20
      have n4 := s4 _ _ n2
      have n5 := B5 n _ na n4
      have j5 : ∀ p ∈ js, EdAt H5 p := fun p hp => EdAt.but S4 B5 (k2 p (pj.mem_iff.mp hp))
      refine ⟨_, rfl, p2, _, rfl, SqL.of hp21, fun e2 he2 => ?_⟩
      have e2a := S5.ne he2
      rw [cut_take _ _ (by decide), ← List.map_take]
      refine ⟨by show 2 ≤ sizeLine; decide, fun t ht => ?_⟩
      have B07 : But a H H5 := (B02.trans (But.of_same s4)).trans B5
      have s78 : Same H5 (L2.upd H5 e2 (.lst ((js.take (18 : Int).toNat).map fun p => V.ref p.1))) := Same.new he2
      have s79 : Same H5 (L2.upd (L2.upd H5 e2 (.lst ((js.take (18 : Int).toNat).map fun p => V.ref p.1))) t (.tup [.ref n, .ref e2])) := s78.trans (Same.new ht)
      have jsub : ∀ p ∈ js.take (18 : Int).toNat, p ∈ js := fun p hp => List.mem_of_mem_take hp
      refine k t n e2 ns (js.take (18 : Int).toNat) _ upd_same ⟨s79 _ _ n5, n0, n8, nnd, nok, ?_, fun p hp => s79 _ _ (j5 p (jsub p hp)), fun p hp => kok p (pj.mem_iff.mp (jsub p hp)), ?_, ?_⟩ (fun z hz => pb.mem_iff.mp hz) n00 (B07.none e2a he2) (S5.but s79) (B07.trans (But.of_same s79))
      · rw [upd_ne (ne_of_none (upd_same (H := H5) (a := e2)) ht)]; exact upd_same
      · have nd1 : (js.map (·.2)).Nodup := (pj.map (·.2)).nodup_iff.mpr (by rw [k3]; exact upE_nd nnd _)
        rw [List.map_take]; exact nd1.sublist (List.take_sublist _ _)
      · rw [List.length_take]; exact Nat.min_le_left _ _
end
end CP
namespace CP
open PySem L2
/-! ### lists of pairs as data -/
def pD (p : E2 × E2) : PyData := .tuple [encE p.1, encE p.2]
def OkE (e : E2) : Prop := PyData.strOk e.1 = true ∧ PyData.strOk e.2 = true
def OkP (p : E2 × E2) : Prop := OkE p.1 ∧ OkE p.2
theorem encE_lay {e : E2} (h : OkE e) : (encE e).canLay0 = true := by simp [encE, PyData.canLay0, PyData.canLayAll0, h.1, h.2]
theorem pD_lay {p : E2 × E2} (h : OkP p) : (pD p).canLay0 = true := by
  have a := encE_lay h.1; have b := encE_lay h.2
  simp [pD, PyData.canLay0, PyData.canLayAll0, a, b]
theorem pDs_lay : ∀ {ps : List (E2 × E2)}, (∀ p ∈ ps, OkP p) → PyData.canLayAll0 (ps.map pD) = true
  | [], _ => by simp [PyData.canLayAll0]
  | p :: ps, h => by
    have a := pD_lay (h p List.mem_cons_self)
    have b := pDs_lay fun q hq => h q (List.mem_cons_of_mem _ hq)
    simp [PyData.canLayAll0, a, b]
theorem encE_depth (e : E2) : (encE e).depth = 1 := by simp [encE, PyData.depth, PyData.depthAll]
theorem pD_depth (p : E2 × E2) : (pD p).depth = 2 := by simp [pD, PyData.depth, PyData.depthAll, encE_depth]
theorem pDs_depth : ∀ ps : List (E2 × E2), PyData.depthAll (ps.map pD) ≤ 2
  | [] => by simp [PyData.depthAll]
  | p :: ps => by
    have a := pD_depth p; have b := pDs_depth ps
    simp only [List.map_cons, PyData.depthAll]; omega
theorem pDs_shaped {ps : List (E2 × E2)} (h : ∀ p ∈ ps, OkP p) : SeqAt.shaped (.list (ps.map pD)) = true := by
  have c1 : (PyData.list (ps.map pD)).canLay0 = true := by simp [PyData.canLay0, pDs_lay h]
  have c2 : (PyData.list (ps.map pD)).depth = PyData.depthAll (ps.map pD) + 1 := by first | rfl | simp [PyData.depth, Nat.add_comm]
  have := pDs_depth ps
  unfold SeqAt.shaped; rw [c1, c2]; simp; omega
theorem alike_pD (p q : E2 × E2) : PySem.W.alike (pD p) (pD q) = true := by simp [pD, encE, PySem.W.alike, PySem.W.alikeAll]
theorem alike_pDs : ∀ ps : List (E2 × E2), PySem.W.alikeAll (ps.map pD) (ps.map pD) = true
  | [] => by simp [PySem.W.alikeAll]
  | p :: ps => by simp [PySem.W.alikeAll, alike_pD, alike_pDs ps]
theorem eqv_pDs (ps : List (E2 × E2)) : PyData.eqv (.list (ps.map pD)) (.list (ps.map pD)) = true := PySem.W.eqv_refl_alike _ (by simp [PySem.W.alike, alike_pDs])
theorem dp_pair {K : PySem.W.Frag} {H : Hp} {q : Pr} (h : PrAt H q) : Dp K H (.ref q.1) (pD (prV q)) := .tup (SqT.of h.ob) (.cons (dp_edge h.one) (.cons (dp_edge h.two) .nil))
theorem dp_pairs {K : PySem.W.Frag} {H : Hp} : ∀ {qs : List Pr}, (∀ q ∈ qs, PrAt H q) → DpAll K H (qs.map fun q => V.ref q.1) ((qs.map prV).map pD)
  | [], _ => .nil
  | q :: qs, h => .cons (dp_pair (h q List.mem_cons_self)) (dp_pairs fun r hr => h r (List.mem_cons_of_mem _ hr))
theorem PrsAt.dp {K : PySem.W.Frag} {H : Hp} {l : Addr} {ps : List (E2 × E2)} (h : PrsAt H l ps) : Dp K H (.ref l) (.list (ps.map pD)) := by
  obtain ⟨qs, a, b, rfl⟩ := h
  exact .lst (SqL.of a) (dp_pairs b)
/-! ### the order of pairs -/
theorem eqv_E (e f : E2) : PyData.eqv (encE e) (encE f) = decide (e = f) := by
  have h : PyData.eqv (encE e) (encE f) = (PyData.eqv (.str e.1) (.str f.1) && PyData.eqv (.str e.2) (.str f.2)) := by simp [encE, PyData.eqv, PyData.eqvAll]
  rw [h, eqv_str, eqv_str]
  obtain ⟨a, b⟩ := e; obtain ⟨c, d⟩ := f
  by_cases h1 : a = c <;> by_cases h2 : b = d <;> simp [h1, h2]
def ltP (p q : E2 × E2) : Bool := if p.1 = q.1 then (if p.2 = q.2 then false else ltE p.2 q.2) else ltE p.1 q.1
theorem dataLt_P (p q : E2 × E2) : PySem.W.dataLt (pD p) (pD q) = ltP p q := by
  unfold pD ltP
  rw [PySem.W.dataLt_pair (by simp [encE, PySem.W.alike, PySem.W.alikeAll]) (by simp [encE, PySem.W.alike, PySem.W.alikeAll]), eqv_E, eqv_E, dataLt_E, dataLt_E]
  by_cases h1 : p.1 = q.1 <;> by_cases h2 : p.2 = q.2 <;> simp [h1, h2]
theorem ltP_asymm {e f : E2 × E2} (h : ltP e f = true) : ltP f e = false := by
  unfold ltP at *
  by_cases h1 : e.1 = f.1
  · rw [if_pos h1] at h; rw [if_pos h1.symm]
    by_cases h2 : e.2 = f.2
    · rw [if_pos h2] at h; cases h
    · rw [if_neg h2] at h; rw [if_neg fun z => h2 z.symm]; exact ltE_asymm h
  · rw [if_neg h1] at h; rw [if_neg fun z => h1 z.symm]; exact ltE_asymm h
theorem ltP_total {e f : E2 × E2} (h : e ≠ f) (h2 : ltP e f = false) : ltP f e = true := by
  unfold ltP at *
  by_cases h1 : e.1 = f.1
  · rw [if_pos h1] at h2; rw [if_pos h1.symm]
    by_cases h3 : e.2 = f.2
    · exact absurd (Prod.ext h1 h3) h
    · rw [if_neg h3] at h2; rw [if_neg fun z => h3 z.symm]; exact ltE_total h3 h2
  · rw [if_neg h1] at h2; rw [if_neg fun z => h1 z.symm]; exact ltE_total h1 h2
def leP (p q : Pr) : Bool := PySem.W.dataLe false (fun p : Pr => pD (prV p)) p q
theorem leP_eq (p q : Pr) : leP p q = !ltP (prV q) (prV p) := by
  show (!PySem.W.dataLt (pD (prV q)) (pD (prV p))) = _
  rw [dataLt_P]
theorem leP_total : PySem.W.TotalLe leP := by
  show PySem.W.TotalLe (PySem.W.dataLe false fun p : Pr => pD (prV p))
  exact PySem.W.sortLe_total _ _ _
/-- the pairs in ascending order -/
def sortP (ks : List Pr) : List Pr := ks.mergeSort leP
theorem sortP_perm (ks : List Pr) : (sortP ks).Perm ks := List.mergeSort_perm ks leP
theorem sortP_lt {ks : List Pr} (nd : (ks.map prV).Nodup) : ((sortP ks).map prV).Pairwise (fun p q => ltP p q = true) := by
  have h1 := PySem.W.sort_pairwise leP_total ks
  have h2 : ((sortP ks).map prV).Nodup := ((sortP_perm ks).map _).nodup_iff.mpr nd
  rw [List.nodup_iff_pairwise_ne, List.pairwise_map] at h2
  rw [List.pairwise_map]
  refine (h1.and h2).imp fun {p q} ⟨a, b⟩ => ?_
  rw [leP_eq] at a
  have a' : ltP (prV q) (prV p) = false := by simpa using a
  exact ltP_total (fun z => b z.symm) a'
theorem ascP_unique : ∀ {l m : List (E2 × E2)}, l.Perm m → l.Pairwise (fun p q => ltP p q = true) → m.Pairwise (fun p q => ltP p q = true) → l = m
  | [], m, h, _, _ => h.nil_eq
  | p :: l, [], h, _, _ => absurd h.length_eq (by simp)
  | p :: l, q :: m, h, h1, h2 => by
    have e : p = q := by
      by_cases c : p = q
      · exact c
      · have a : p ∈ m := by
          have := h.mem_iff.mp (List.mem_cons_self (a := p) (l := l))
          rcases List.mem_cons.mp this with z | z
          · exact absurd z c
          · exact z
        have b : q ∈ l := by
          have := h.mem_iff.mpr (List.mem_cons_self (a := q) (l := m))
          rcases List.mem_cons.mp this with z | z
          · exact absurd z.symm c
          · exact z
        have u := (List.pairwise_cons.mp h1).1 q b
        have v := (List.pairwise_cons.mp h2).1 p a
        rw [ltP_asymm u] at v; cases v
    subst e
    rw [ascP_unique (List.Perm.cons_inv h) (List.pairwise_cons.mp h1).2 (List.pairwise_cons.mp h2).2]
/-- two lists of the same pairs, sorted, are one -/
theorem sortP_same {ks js : List Pr} (h : (js.map prV).Perm (ks.map prV)) (nd : (ks.map prV).Nodup) : (sortP js).map prV = (sortP ks).map prV :=
  ascP_unique ((((sortP_perm js).map prV).trans h).trans ((sortP_perm ks).map prV).symm) (sortP_lt (h.nodup_iff.mpr nd)) (sortP_lt nd)
section
variable {X : Cx}
theorem each_refsP : ∀ {ks : List Pr} {us : List Value}, PySem.W.EachIs (fun v (p : Pr) => v = Value.ref p.1) us ks → us = ks.map fun p => Value.ref p.1
  | [], _, .nil => rfl
  | p :: ks, _, .cons h t => by rw [h, each_refsP t]; rfl
theorem refs_eachP : ∀ ks : List Pr, PySem.W.EachIs (fun v (p : Pr) => v = Value.ref p.1) (ks.map fun p => Value.ref p.1) ks
  | [] => .nil
  | p :: ks => .cons rfl (refs_eachP ks)
theorem vals_refsP : ∀ ks : List Pr, Vals (ks.map fun p => V.ref p.1) (ks.map fun p => Value.ref p.1)
  | [] => .nil
  | p :: ks => .cons rfl (vals_refsP ks)
theorem reads_eachP {pins : List (Addr × Obj)} {σ : L2.St} {H : Hp} {s : Shared} (I : L2.Inv X pins σ H s) : ∀ {ks : List Pr}, (∀ p ∈ ks, PrAt H p) → PySem.W.EachIs (fun v (p : Pr) => ∃ as, Reads s.heap v (pD (prV p)) as) (ks.map fun p => Value.ref p.1) ks
  | [], _ => .nil
  | p :: ks, h => .cons (Dp.reads I _ _ _ (dp_pair (h p List.mem_cons_self)) rfl) (reads_eachP I fun q hq => h q (List.mem_cons_of_mem _ hq))
/-- sorted(a list of pairs) -/
def rSortP : List V → Hp → VK → Prop := fun vs H Q => ∃ (a : Addr) (ks : List Pr), vs = [V.ref a] ∧ H a = some (.lst (ks.map fun p => V.ref p.1)) ∧ (∀ p ∈ ks, PrAt H p) ∧ ks.length < 1000 ∧
  ∀ p, H p = none → Q (.ref p) (L2.upd H p (.lst ((sortP ks).map fun p => V.ref p.1)))
theorem cr_sortP (hu : X.A.units + 64 < cLine) : CallR X (.builtin "sorted") rSortP := by
  intro pins s σ H vs us Q I r h
  obtain ⟨a, ks, rfl, hA, hat, few, k⟩ := h
  obtain ⟨its, rv, pl, _⟩ := I.list (SqL.of hA)
  rw [Vals.ref1 r]
  have ei := refs_only (κ := Ed × Ed) rv
  subst ei
  refine PySem.W.sorted_data (β := Pr) (R := fun v p => v = Value.ref p.1) (enc := fun p => pD (prV p)) pl.isList (refs_eachP ks) (reads_eachP I hat) (PySem.W.AllAlike.of fun b b' => alike_pD _ _) (PySem.W.Sortable.tuples fun b => ⟨_, _, rfl⟩) (by rw [sizeLine_eq]; omega)
    (fun b _ => by rw [pD_depth]; omega) fun out hl e => ?_
  have eo : out = (sortP ks).map fun p => Value.ref p.1 := each_refsP e
  subst eo
  obtain ⟨ep, he⟩ := PyProof.Rows.sortedAll_at s.heap (ks.map fun p => Value.ref p.1) ((sortP ks).map fun p => Value.ref p.1).toArray
  have len : ((sortP ks).map fun p => V.ref p.1).length ≤ sizeLine := by rw [List.length_map, (sortP_perm ks).length_eq, sizeLine_eq]; omega
  exact ⟨.ref _, L2.upd H (s.heap.objs.size + 1) (.lst ((sortP ks).map fun p => V.ref p.1)), I.laid (t' := s.toks) (fun _ _ => PyProof.Rows.sortedAll_old) (Nat.le_succ _) ⟨len, _, ep, vals_refsP _, he⟩, rfl, k _ (I.hok.fresh (Nat.le_succ _))⟩
end
end CP
/-! min(x, y), max(x, y) of data -/
namespace CP
open PySem PySem.W PySem.Spec PyProof.Rows
section
variable {prog : Program} {w : World} {A : Around} {E : Value → Shared → Prop} {s : Shared}
abbrev pairO (x y : Value) : Obj := { cls := .type "tuple", data := .seq [x, y].toArray }
theorem min2_data {x y : Value} {dx dy : PyData} {ax ay : List Addr} {Q : Value → Shared → Prop} (hh : A.handled = none) (rx : Reads s.heap x dx ax) (ry : Reads s.heap y dy ay) (al : AlikeAll [dx, dy]) (hu : A.units + 1 + PyData.depthAll [dx, dy] < cLine)
    (h : ∀ h' tk, (∀ b o, s.heap.get? b = some o → h'.get? b = some o) → Q (if dataLt dy dx = true then y else x) { s with heap := h', toks := tk }) : wpAny (model prog w) A (call (.builtin "min") [x, y]) Q E s := by
  have nameL : (toString "min" ++ toString ".loop" : String) = "min.loop" := by decide
  have up : ∀ b o, s.heap.get? b = some o → (s.heap.push (pairO x y)).get? b = some o := fun b o e => Heap.get?_push_of_some _ e
  have rs : ReadsAll (s.heap.push (pairO x y)) (#[x, y] : Array Value).toList [dx, dy] _ := .cons (PyProof.Rows.Reads.keeps up rx) (.cons (PyProof.Rows.Reads.keeps up ry) .nil)
  have tup : (s.heap.push (pairO x y)).IsTuple s.heap.objs.size #[x, y] := ⟨_, Heap.get?_push_size _ rfl, rfl, 0, rfl⟩
  refine call_function_tree F.kind_min F.plain_min F.entry_min (F.args_min2 _ _) ?_
  show wpAny _ A.in1 (Builtin.Builtins.bindParams "min" _ 0 ⟨[], []⟩ >>= _) _ _ s
  refine wpAny_bind (wpAny_of_eq (a := [none, none]) rfl ?_)
  show wpAny _ A.in1 (newTuple [x, y] >>= _) _ _ s
  refine wpAny_bind (wpAny_newObj_type (wpAny_bind ?_))
  refine iter_tupleW (s := { s with heap := s.heap.push (pairO x y) }) (A := A.in1) hh tup fun s2 e W st fp wr kp => ?_
  refine wpAny_bind (wpAny_newObj_type ?_)
  rw [nameL]
  refine wpAny_pure ⟨plainId_quiet F.plain_min_loop _, codeAny_min_loop_firstH W (s.heap.push (pairO x y)) wr _ (cmpIn_lt (s := { s with heap := s.heap.push (pairO x y) }) (A := A.in1) rs al (by show A.units + 1 + _ < _; exact hu)) s2.heap.objs.size (fun z => Nat.lt_irrefl _ (fp _ z)) (fresh_in kp) _ (by show 0 < 2; decide) (fun b o z => Heap.get?_push_of_some _ (kp b o z)) (W.frame 0 s2 _ s2.toks st (Nat.le_refl _) fun b _ o z => Heap.get?_push_of_some _ z) (Heap.get?_push_size _ rfl) fun v s3 hv mv => ?_⟩
  obtain ⟨h3, tk, rfl, k3⟩ := moved_old e rfl (Moved.drop_new (tk := s2.toks) mv (Nat.le_refl _))
  have ev : v = if dataLt dy dx = true then y else x := by
    by_cases c : dataLt dy dx = true
    · rw [if_pos c]
      have hv' : (#[x, y] : Array Value)[if dataLt dy dx = true then 1 else 0]? = some v := hv
      rw [if_pos c] at hv'; exact (Option.some.inj hv').symm
    · rw [if_neg c]
      have hv' : (#[x, y] : Array Value)[if dataLt dy dx = true then 1 else 0]? = some v := hv
      rw [if_neg c] at hv'; exact (Option.some.inj hv').symm
  rw [ev]
  exact h h3 tk fun b o z => k3 b o (up b o z)
theorem max2_data {x y : Value} {dx dy : PyData} {ax ay : List Addr} {Q : Value → Shared → Prop} (hh : A.handled = none) (rx : Reads s.heap x dx ax) (ry : Reads s.heap y dy ay) (al : AlikeAll [dx, dy]) (hu : A.units + 1 + PyData.depthAll [dx, dy] < cLine)
    (h : ∀ h' tk, (∀ b o, s.heap.get? b = some o → h'.get? b = some o) → Q (if dataLt dx dy = true then y else x) { s with heap := h', toks := tk }) : wpAny (model prog w) A (call (.builtin "max") [x, y]) Q E s := by
  have nameL : (toString "max" ++ toString ".loop" : String) = "max.loop" := by decide
  have up : ∀ b o, s.heap.get? b = some o → (s.heap.push (pairO x y)).get? b = some o := fun b o e => Heap.get?_push_of_some _ e
  have rs : ReadsAll (s.heap.push (pairO x y)) (#[x, y] : Array Value).toList [dx, dy] _ := .cons (PyProof.Rows.Reads.keeps up rx) (.cons (PyProof.Rows.Reads.keeps up ry) .nil)
  have tup : (s.heap.push (pairO x y)).IsTuple s.heap.objs.size #[x, y] := ⟨_, Heap.get?_push_size _ rfl, rfl, 0, rfl⟩
  refine call_function_tree F.kind_max F.plain_max F.entry_max (F.args_max2 _ _) ?_
  show wpAny _ A.in1 (Builtin.Builtins.bindParams "max" _ 0 ⟨[], []⟩ >>= _) _ _ s
  refine wpAny_bind (wpAny_of_eq (a := [none, none]) rfl ?_)
  show wpAny _ A.in1 (newTuple [x, y] >>= _) _ _ s
  refine wpAny_bind (wpAny_newObj_type (wpAny_bind ?_))
  refine iter_tupleW (s := { s with heap := s.heap.push (pairO x y) }) (A := A.in1) hh tup fun s2 e W st fp wr kp => ?_
  refine wpAny_bind (wpAny_newObj_type ?_)
  rw [nameL]
  refine wpAny_pure ⟨plainId_quiet F.plain_max_loop _, codeAny_max_loop_firstH W (s.heap.push (pairO x y)) wr _ (cmpIn_gt (s := { s with heap := s.heap.push (pairO x y) }) (A := A.in1) rs al (by show A.units + 1 + _ < _; exact hu)) s2.heap.objs.size (fun z => Nat.lt_irrefl _ (fp _ z)) (fresh_in kp) _ (by show 0 < 2; decide) (fun b o z => Heap.get?_push_of_some _ (kp b o z)) (W.frame 0 s2 _ s2.toks st (Nat.le_refl _) fun b _ o z => Heap.get?_push_of_some _ z) (Heap.get?_push_size _ rfl) fun v s3 hv mv => ?_⟩
  obtain ⟨h3, tk, rfl, k3⟩ := moved_old e rfl (Moved.drop_new (tk := s2.toks) mv (Nat.le_refl _))
  have ev : v = if dataLt dx dy = true then y else x := by
    by_cases c : dataLt dx dy = true
    · rw [if_pos c]
      have hv' : (#[x, y] : Array Value)[if dataLt dx dy = true then 1 else 0]? = some v := hv
      rw [if_pos c] at hv'; exact (Option.some.inj hv').symm
    · rw [if_neg c]
      have hv' : (#[x, y] : Array Value)[if dataLt dx dy = true then 1 else 0]? = some v := hv
      rw [if_neg c] at hv'; exact (Option.some.inj hv').symm
  rw [ev]
  exact h h3 tk fun b o z => k3 b o (up b o z)
end
open L2
section
variable {X : Cx}
theorem alike_two (e f : E2) : AlikeAll [encE e, encE f] := by
  refine ⟨fun x hx y hy => ?_, fun x hx => ?_⟩
  · simp only [List.mem_cons, List.not_mem_nil, or_false] at hx hy
    rcases hx with rfl | rfl <;> rcases hy with rfl | rfl <;> simp [encE, alike, alikeAll]
  · simp only [List.mem_cons, List.not_mem_nil, or_false] at hx
    rcases hx with rfl | rfl <;> simp [encE]
theorem two_depth (e f : E2) : PyData.depthAll [encE e, encE f] = 1 := by simp [PyData.depthAll, encE_depth]
def rMinE : List V → Hp → VK → Prop := fun vs H Q => ∃ p q : Ed, vs = [.ref p.1, .ref q.1] ∧ EdAt H p ∧ EdAt H q ∧ Q (.ref (if ltE q.2 p.2 = true then q.1 else p.1)) H
def rMaxE : List V → Hp → VK → Prop := fun vs H Q => ∃ p q : Ed, vs = [.ref p.1, .ref q.1] ∧ EdAt H p ∧ EdAt H q ∧ Q (.ref (if ltE p.2 q.2 = true then q.1 else p.1)) H
theorem call_minE (hc : X.calm = true) (hu : X.A.units + 64 < cLine) : CallR X (.builtin "min") rMinE := by
  intro pins s σ H xs us Q I r h
  obtain ⟨p, q, rfl, hp, hq, k⟩ := h
  obtain ⟨u, v, rfl, r1, r2⟩ := vals2 r
  obtain ⟨as, ra⟩ := Dp.reads I (encE p.2) _ u (dp_edge hp) r1
  obtain ⟨bs, rb⟩ := Dp.reads I (encE q.2) _ v (dp_edge hq) r2
  refine min2_data (I.ok.hd hc) ra rb (alike_two _ _) (by rw [two_depth]; omega) fun h' tk kp => ⟨_, H, I.kept (t' := tk) kp, ?_, k⟩
  rw [dataLt_E]
  cases ltE q.2 p.2
  · exact r1
  · exact r2
theorem call_maxE (hc : X.calm = true) (hu : X.A.units + 64 < cLine) : CallR X (.builtin "max") rMaxE := by
  intro pins s σ H xs us Q I r h
  obtain ⟨p, q, rfl, hp, hq, k⟩ := h
  obtain ⟨u, v, rfl, r1, r2⟩ := vals2 r
  obtain ⟨as, ra⟩ := Dp.reads I (encE p.2) _ u (dp_edge hp) r1
  obtain ⟨bs, rb⟩ := Dp.reads I (encE q.2) _ v (dp_edge hq) r2
  refine max2_data (I.ok.hd hc) ra rb (alike_two _ _) (by rw [two_depth]; omega) fun h' tk kp => ⟨_, H, I.kept (t' := tk) kp, ?_, k⟩
  rw [dataLt_E]
  cases ltE p.2 q.2
  · exact r1
  · exact r2
end
end CP
/-! Values of any kind: is_couple, is_among, joins, is_edge, is_carry -/
namespace CP
open PySem L2
abbrev sIsEdge : Stmt := top 20
-- no sCarry
mutual
/-- a value of any kind, as data; a dict without items stands for the dicts -/
inductive Od (H : Hp) : V → PyData → Prop
  | non : Od H .non .none
  | int (i : Int) : Od H (.int i) (.int i)
  | str (x : Str) : Od H (.str x) (.str x)
  | lst {a : Addr} {xs : List V} {ds : List PyData} : H a = some (.lst xs) → OdAll H xs ds → Od H (.ref a) (.list ds)
  | tup {a : Addr} {xs : List V} {ds : List PyData} : H a = some (.tup xs) → OdAll H xs ds → Od H (.ref a) (.tuple ds)
  | dct {a : Addr} {kvs : List (Key × V)} : H a = some (.dK kvs) → Od H (.ref a) (.dict [])
  | dcT {a : Addr} {kvs : List (List Key × V)} : H a = some (.dT kvs) → Od H (.ref a) (.dict [])
inductive OdAll (H : Hp) : List V → List PyData → Prop
  | nil : OdAll H [] []
  | cons {v : V} {vs : List V} {d : PyData} {ds : List PyData} : Od H v d → OdAll H vs ds → OdAll H (v :: vs) (d :: ds)
end
mutual
theorem Od.same {H H' : Hp} (s : Same H H') : ∀ {v : V} {d : PyData}, Od H v d → Od H' v d
  | _, _, .non => .non
  | _, _, .int i => .int i
  | _, _, .str x => .str x
  | _, _, .lst h a => .lst (s _ _ h) (OdAll.same s a)
  | _, _, .tup h a => .tup (s _ _ h) (OdAll.same s a)
  | _, _, .dct h => .dct (s _ _ h)
  | _, _, .dcT h => .dcT (s _ _ h)
theorem OdAll.same {H H' : Hp} (s : Same H H') : ∀ {vs : List V} {ds : List PyData}, OdAll H vs ds → OdAll H' vs ds
  | _, _, .nil => .nil
  | _, _, .cons h t => .cons (h.same s) (t.same s)
end
def coupB : PyData → Bool
  | .tuple [_, _] => true
  | _ => false
def amB (ns : List Str) : PyData → Bool
  | .str z => decide (z ∈ ns)
  | _ => false
def joB (ns : List Str) : PyData → Bool
  | .tuple [.str u, .str v] => decide (u ∈ ns) && (decide (v ∈ ns) && ltS u v)
  | _ => false
def edB (ns : List Str) (es : List E2) : PyData → Bool
  | .tuple [.str u, .str v] => (decide (u ∈ ns) && (decide (v ∈ ns) && ltS u v)) && decide ((u, v) ∈ es)
  | _ => false
def offB : PyData → Str → Bool
  | .tuple [.str u, .str v], z => decide (z ∉ [u, v])
  | _, _ => false
def caB (ns : List Str) (es : List E2) : PyData → Bool
  | .tuple [e, .str z] => edB ns es e && (decide (z ∈ ns) && offB e z)
  | _ => false
def spCoupleG : Sp := fun vs H Q _ => ∃ (x : V) (d : PyData), vs = [x] ∧ Od H x d ∧ Q (.bl (coupB d)) H
def spAmongG (K : PySem.W.Frag) : Sp := fun vs H Q _ => ∃ (a : Addr) (ns : List Str) (x : V) (d : PyData), vs = [.ref a, x] ∧ (SqL K H a (ns.map V.str) ∨ SqT K H a (ns.map V.str)) ∧ Od H x d ∧ Q (.bl (amB ns d)) H
def spJoinsG (K : PySem.W.Frag) : Sp := fun vs H Q _ => ∃ (a : Addr) (ns : List Str) (x : V) (d : PyData), vs = [.ref a, x] ∧ (SqL K H a (ns.map V.str) ∨ SqT K H a (ns.map V.str)) ∧ Od H x d ∧ Q (.bl (joB ns d)) H
def spIsEdge (C : Addr) : Sp := fun vs H Q _ => ∃ (g : Addr) (ns : List Str) (es : List Ed) (x : V) (d : PyData), vs = [.ref g, x] ∧ GrAt C H g ns es ∧ Od H x d ∧ Q (.bl (edB ns (es.map (·.2)) d)) H
def spCarry (C : Addr) : Sp := fun vs H Q _ => ∃ (g : Addr) (ns : List Str) (es : List Ed) (x : V) (d : PyData), vs = [.ref g, x] ∧ GrAt C H g ns es ∧ Od H x d ∧ Q (.bl (caB ns (es.map (·.2)) d)) H
theorem odLen {H : Hp} : ∀ {vs : List V} {ds : List PyData}, OdAll H vs ds → vs.length = ds.length
  | _, _, .nil => rfl
  | _, _, .cons _ t => by rw [List.length_cons, List.length_cons, odLen t]
section
variable {X : Cx}
/-- x in a tuple of edges -/
def rInE : R2 := fun x y H Q => ∃ (p : Addr) (u v : Str) (t : Addr) (es : List Ed), x = .ref p ∧ y = .ref t ∧ H p = some (.tup [.str u, .str v]) ∧ H t = some (.tup (es.map fun q => V.ref q.1)) ∧ (∀ q ∈ es, EdAt H q) ∧ Q (.bl (decide ((u, v) ∈ es.map (·.2)))) H
theorem dp_edges {K : PySem.W.Frag} {H : Hp} : ∀ {es : List Ed}, (∀ q ∈ es, EdAt H q) → DpAll K H (es.map fun q => V.ref q.1) (es.map fun q => encE q.2)
  | [], _ => .nil
  | q :: es, h => .cons (dp_edge (h q List.mem_cons_self)) (dp_edges fun r hr => h r (List.mem_cons_of_mem _ hr))
theorem plain_es : ∀ es : List Ed, PyData.plainAll (es.map fun q => encE q.2) = true
  | [] => rfl
  | q :: es => by
    show (PyData.plain (encE q.2) && PyData.plainAll (es.map fun q => encE q.2)) = true
    rw [plain_es es]; simp [encE, PyData.plain, PyData.plainAll]
theorem any_es (e : E2) (es : List Ed) : ((es.map fun q => encE q.2).any fun y => PyData.eqv y (encE e)) = decide (e ∈ es.map (·.2)) := by
  rw [List.any_map]
  by_cases c : e ∈ es.map (·.2)
  · rw [decide_eq_true c]
    obtain ⟨q, hq, rfl⟩ := List.mem_map.mp c
    exact List.any_eq_true.mpr ⟨q, hq, by show PyData.eqv (encE q.2) (encE q.2) = true; rw [eqv_E]; simp⟩
  · rw [decide_eq_false c]
    cases h : es.any ((fun y => PyData.eqv y (encE e)) ∘ fun q => encE q.2) with
    | false => rfl
    | true =>
      obtain ⟨q, hq, z⟩ := List.any_eq_true.mp h
      have z' : PyData.eqv (encE q.2) (encE e) = true := z
      rw [eqv_E] at z'
      exact absurd (List.mem_map.mpr ⟨q, hq, of_decide_eq_true z'⟩) c
theorem op_inE (hu : X.A.units + 64 < cLine) : OpR X (compareOp .In) rInE := by
  intro pins s σ H x y v u Q I rx ry h
  obtain ⟨p, a, b, t, es, rfl, rfl, hp, ht, he, k⟩ := h
  obtain ⟨as, r1⟩ := Dp.reads I (encE (a, b)) _ v (dp_edge (p := (p, (a, b))) hp) rx
  obtain ⟨bs, r2⟩ := Dp.reads I (.tuple (es.map fun q => encE q.2)) _ u (.tup (SqT.of ht) (dp_edges he)) ry
  refine PySem.SeqAt.in_tuple_data r2 r1 (plain_es es) (by simp [encE, PyData.plain, PyData.plainAll]) (by rw [encE_depth]; omega) ⟨.bl _, H, I, rfl, ?_⟩
  rw [any_es]; exact k
end
section
variable {P : Program} {w : World} {K : PySem.W.Frag} {mg : Str → Option Value} {base : Heap}
theorem ok_coupleG {f : Addr} {fd : FuncData} (F : Fun K "is_couple" "is_couple" sCouple f fd) (mi : mg "isinstance" = none) (ml : mg "len" = none) (mt : mg "tuple" = none) : FnOk P w K mg base CX0 1 f fd ["value"] spCoupleG := by
  refine F.ok scCouple (fun vs H Q E h => ?_) (fun cdv A outer s H vs Q E hr h => ?_)
  · obtain ⟨x, d, rfl, _⟩ := h; rfl
  · obtain ⟨x, d, rfl, o, k⟩ := h
    refine ⟨_, pss_one (ps_ret (pe_and (pe_callB call_isi (by rfl) mi (by decide +kernel) (pa_cons (pv 0) (pa_cons (pe_bltn (v := .ty "tuple") (by rfl) mt (by decide +kernel) rfl) pa_nil)))
      (pe_one (pe_cmpR op_eq (pe_callB call_len_seq (by rfl) ml PySem.boot_len (pa_cons (pv 0) pa_nil)) pe_int (nomark _))))), ?_⟩
    cases o with
    | non => exact ⟨_, rfl, _, _, .type "NoneType", _, false, rfl, .ty _, .base .non, kit_ty (by decide +kernel), _, rfl, iteF k⟩
    | int i => exact ⟨_, rfl, _, _, .type "int", _, false, rfl, .ty _, .base (.int i), kit_ty (by decide +kernel), _, rfl, iteF k⟩
    | str z => exact ⟨_, rfl, _, _, .type "str", _, false, rfl, .ty _, .base (.str z), kit_ty (by decide +kernel), _, rfl, iteF k⟩
    | lst h _ => exact ⟨_, rfl, _, _, .type "list", _, false, rfl, .ty _, .base (.lst h), kit_ty (by decide +kernel), _, rfl, iteF k⟩
    | dct h => exact ⟨_, rfl, _, _, .type "dict", _, false, rfl, .ty _, .base (.dK h), kit_ty (by decide +kernel), _, rfl, iteF k⟩
    | dcT h => exact ⟨_, rfl, _, _, .type "dict", _, false, rfl, .ty _, .base (.dT h), kit_ty (by decide +kernel), _, rfl, iteF k⟩
    | @tup a xs ds h al =>
      refine ⟨_, rfl, _, _, .type "tuple", _, true, rfl, .ty _, .base (.tup h), kit_ty (by decide +kernel), _, rfl, iteT ?_⟩
      refine ⟨_, rfl, a, _, rfl, .inr (SqT.of h), rfl, ?_⟩
      have hl := odLen al
      have e : decide (V.int (xs.length : Int) = V.int 2) = coupB (.tuple ds) := by
        rw [hl]
        match ds with
        | [] => rfl
        | [_] => rfl
        | [_, _] => rfl
        | _ :: _ :: _ :: r =>
          rw [decide_eq_false (fun z => by injection z with z; simp only [List.length_cons] at z; omega)]; rfl
      rw [e]; exact k
theorem ok_amongG {f : Addr} {fd : FuncData} (F : Fun K "is_among" "is_among" sAmong f fd) (mi : mg "isinstance" = none) (ms : mg "str" = none) : FnOk P w K mg base CX0 1 f fd ["vertices", "value"] (spAmongG K) := by
  refine F.ok scAmong (fun vs H Q E h => ?_) (fun cdv A outer s H vs Q E hr h => ?_)
  · obtain ⟨a, ns, x, d, rfl, _⟩ := h; rfl
  · obtain ⟨a, ns, x, d, rfl, hA, o, k⟩ := h
    refine ⟨_, pss_one (ps_ret (pe_and (pe_callB call_isi (by rfl) mi (by decide +kernel) (pa_cons (pv 1) (pa_cons (pe_bltn (v := .ty "str") (by rfl) ms (by decide +kernel) rfl) pa_nil))) (pe_one (pe_cmpR op_in_seq (pv 1) (pv 0) rfl)))), ?_⟩
    cases o with
    | non => exact ⟨_, rfl, _, _, .type "NoneType", _, false, rfl, .ty _, .base .non, kit_ty (by decide +kernel), _, rfl, iteF k⟩
    | int i => exact ⟨_, rfl, _, _, .type "int", _, false, rfl, .ty _, .base (.int i), kit_ty (by decide +kernel), _, rfl, iteF k⟩
    | lst h _ => exact ⟨_, rfl, _, _, .type "list", _, false, rfl, .ty _, .base (.lst h), kit_ty (by decide +kernel), _, rfl, iteF k⟩
    | tup h _ => exact ⟨_, rfl, _, _, .type "tuple", _, false, rfl, .ty _, .base (.tup h), kit_ty (by decide +kernel), _, rfl, iteF k⟩
    | dct h => exact ⟨_, rfl, _, _, .type "dict", _, false, rfl, .ty _, .base (.dK h), kit_ty (by decide +kernel), _, rfl, iteF k⟩
    | dcT h => exact ⟨_, rfl, _, _, .type "dict", _, false, rfl, .ty _, .base (.dT h), kit_ty (by decide +kernel), _, rfl, iteF k⟩
    | str z =>
      refine ⟨_, rfl, _, _, .type "str", _, true, rfl, .ty _, .base (.str z), kit_ty (by decide +kernel), _, rfl, iteT ?_⟩
      refine ⟨_, rfl, _, rfl, a, _, rfl, hA, rfl, flat_txt ns, ?_⟩
      rw [inV_txt]; exact k
theorem joB_no {ns : List Str} {d : PyData} (h : coupB d = false) : joB ns d = false := by
  unfold joB; split
  · cases h
  · rfl
theorem joB_am {ns : List Str} {a b : PyData} : joB ns (.tuple [a, b]) = (amB ns a && (amB ns b && (match a, b with | .str u, .str v => ltS u v | _, _ => false))) := by
  cases a <;> cases b <;> simp [joB, amB]
theorem am_str {ns : List Str} {H : Hp} {x : V} {d : PyData} (o : Od H x d) (h : amB ns d = true) : ∃ z, d = .str z ∧ x = .str z ∧ z ∈ ns := by
  cases o with
  | str z => exact ⟨z, rfl, rfl, of_decide_eq_true h⟩
  | _ => cases h
theorem ok_joinsG {f fC fA : Addr} {fd fdC fdA : FuncData} (F : Fun K "joins" "joins" sJoins f fd) (mC : mg "is_couple" = some (.ref fC)) (FC : FnOk P w K mg base CX0 1 fC fdC ["value"] spCoupleG) (kC : PySem.W.keepIn K (.ref fC) = true) (bC : Binds K fdC ["value"] [])
    (mA : mg "is_among" = some (.ref fA)) (FA : FnOk P w K mg base CX0 1 fA fdA ["vertices", "value"] (spAmongG K)) (kA : PySem.W.keepIn K (.ref fA) = true) (bA : Binds K fdA ["vertices", "value"] []) : FnOk P w K mg base CX0 2 f fd ["vertices", "value"] (spJoinsG K) := by
  refine F.ok scJoins (fun vs H Q E h => ?_) (fun cdv A outer s H vs Q E hr h => ?_)
  · obtain ⟨a, ns, x, d, rfl, _⟩ := h; rfl
  · obtain ⟨a, ns, x, d, rfl, hA, o, k⟩ := h
    refine ⟨_, pss_cons (ps_if (pt_not (pt_val (pe_call FC hr rfl mC kC bC .nil pass0 (pa_cons (pv 1) pa_nil)))) (pss_one (ps_ret pe_bl)) pss_nil)
      (pss_cons (ps_asg (pv 1) (pg_tup rfl (pgs_cons (pg_name (i := 2) scJoins.nd rfl (Or.inl rfl)) (pgs_cons (pg_name (i := 3) scJoins.nd rfl (Or.inl rfl)) pgs_nil))))
      (pss_one (ps_ret (pe_and (pe_call FA hr rfl mA kA bA .nil pass0 (pa_cons (pv 0) (pa_cons (pv 2) pa_nil))) (pe_and (pe_call FA hr rfl mA kA bA .nil pass0 (pa_cons (pv 0) (pa_cons (pv 3) pa_nil))) (pe_one (pe_cmpR op_lt_str (pv 2) (pv 3) (nomark _)))))))), ?_⟩
    refine ⟨_, rfl, x, d, rfl, o, _, rfl, ?_⟩
    cases c : coupB d with
    | false => rw [joB_no c] at k; exact iteT k
    | true =>
      refine iteF ?_
      cases o with
      | @tup p xs ds hp al =>
        match ds, c, al, k with
        | [da, db], _, .cons (v := va) oa (.cons (v := vb) ob .nil), k =>
          refine ⟨_, rfl, p, _, rfl, SqT.of hp, rfl, _, _, rfl, _, _, rfl, rfl, ?_⟩
          rw [joB_am] at k
          refine ⟨_, rfl, _, rfl, a, ns, va, da, rfl, hA, oa, _, rfl, ?_⟩
          cases c1 : amB ns da with
          | false => rw [c1] at k; exact iteF k
          | true =>
            rw [c1] at k
            refine iteT ⟨_, rfl, _, rfl, a, ns, vb, db, rfl, hA, ob, _, rfl, ?_⟩
            cases c2 : amB ns db with
            | false => rw [c2] at k; exact iteF k
            | true =>
              rw [c2] at k
              obtain ⟨u, rfl, rfl, _⟩ := am_str oa c1
              obtain ⟨v, rfl, rfl, _⟩ := am_str ob c2
              exact iteT ⟨_, rfl, _, rfl, _, _, rfl, rfl, k⟩
      | _ => cases c
theorem scIsEdge : FnScope ["graph", "value"] ["graph", "value"] (defScope sIsEdge) := ⟨rfl, rfl, rfl, by decide +kernel, rfl, by decide +kernel, by decide +kernel⟩
theorem edB_no {ns : List Str} {es : List E2} {d : PyData} (h : joB ns d = false) : edB ns es d = false := by
  unfold edB; split
  · rename_i u v
    have h' : (decide (u ∈ ns) && (decide (v ∈ ns) && ltS u v)) = false := h
    rw [h']; rfl
  · rfl
theorem jo_str {ns : List Str} {H : Hp} {x : V} {d : PyData} (o : Od H x d) (h : joB ns d = true) : ∃ (p : Addr) (u v : Str), x = .ref p ∧ H p = some (.tup [.str u, .str v]) ∧ d = .tuple [.str u, .str v] := by
  cases o with
  | @tup p xs ds hp al =>
    match ds, h, al with
    | [.str u, .str v], _, .cons oa (.cons ob .nil) =>
      cases oa; cases ob
      exact ⟨p, u, v, rfl, hp, rfl⟩
  | _ => cases h
theorem ok_isedge {f fJ C : Addr} {fd fdJ : FuncData} (F : Fun K "is_edge" "is_edge" sIsEdge f fd) (T : GTxt K mg C)
    (mJ : mg "joins" = some (.ref fJ)) (FJ : FnOk P w K mg base CX0 2 fJ fdJ ["vertices", "value"] (spJoinsG K)) (kJ : PySem.W.keepIn K (.ref fJ) = true) (bJ : Binds K fdJ ["vertices", "value"] []) : FnOk P w K mg base CX0 3 f fd ["graph", "value"] (spIsEdge C) := by
  refine F.ok scIsEdge (fun vs H Q E h => ?_) (fun cdv A outer s H vs Q E hr h => ?_)
  · obtain ⟨g, ns, es, x, d, rfl, _⟩ := h; rfl
  · obtain ⟨g, ns, es, x, d, rfl, G, o, k⟩ := h
    refine ⟨_, pss_one (ps_ret (pe_and (pe_call FJ hr rfl mJ kJ bJ .nil pass0 (pa_cons (pe_fld (pv 0) rfl) (pa_cons (pv 1) pa_nil))) (pe_one (pe_cmpR (op_inE hr.units) (pv 1) (pe_fld (pv 0) rfl) rfl)))), ?_⟩
    obtain ⟨⟨dx, t1, t2, g1, g2, g3⟩, ge⟩ := id G
    refine ⟨_, rfl, g, C, dx, _, _, rfl, g1, T.cl, T.nV, gf_v _ _, _, rfl, t1, ns, x, d, rfl, .inr (SqT.of g2), o, _, rfl, ?_⟩
    cases c : joB ns d with
    | false => rw [edB_no c] at k; exact iteF k
    | true =>
      obtain ⟨p, u, v, rfl, hp, rfl⟩ := jo_str o c
      refine iteT ⟨_, rfl, _, rfl, g, C, dx, _, _, rfl, g1, T.cl, T.nE, gf_e _ _, p, u, v, t2, es, rfl, rfl, hp, g3, ge, ?_⟩
      have e : edB ns (es.map (·.2)) (.tuple [.str u, .str v]) = decide ((u, v) ∈ es.map (·.2)) := by
        have c' : (decide (u ∈ ns) && (decide (v ∈ ns) && ltS u v)) = true := c
        show ((decide (u ∈ ns) && (decide (v ∈ ns) && ltS u v)) && decide ((u, v) ∈ es.map (·.2))) = _
        rw [c']; rfl
      rw [e] at k; exact k
end
end CP
/-! Graph.__eq__ of two graphs -/
namespace CP
open PySem PySem.Spec PyProof.Rows L2
abbrev sEq : Stmt := inClass (top 11) 1
theorem eqvAll_txt : ∀ ns ms : List Str, PyData.eqv (.tuple (ns.map PyData.str)) (.tuple (ms.map PyData.str)) = decide (ns = ms)
  | [], [] => by simp [PyData.eqv, PyData.eqvAll]
  | [], _ :: _ => by simp [PyData.eqv, PyData.eqvAll]
  | _ :: _, [] => by simp [PyData.eqv, PyData.eqvAll]
  | z :: ns, y :: ms => by
    have ih := eqvAll_txt ns ms
    have e := eqv_str z y
    simp only [List.map_cons, PyData.eqv, PyData.eqvAll] at ih e ⊢
    rw [e, ih]
    by_cases h1 : z = y <;> by_cases h2 : ns = ms <;> simp [h1, h2]
theorem eqvAll_eds : ∀ es fs : List E2, PyData.eqv (.tuple (es.map encE)) (.tuple (fs.map encE)) = decide (es = fs)
  | [], [] => by simp [PyData.eqv, PyData.eqvAll]
  | [], _ :: _ => by simp [PyData.eqv, PyData.eqvAll]
  | _ :: _, [] => by simp [PyData.eqv, PyData.eqvAll]
  | z :: ns, y :: ms => by
    have ih := eqvAll_eds ns ms
    have e := eqv_E z y
    have u : PyData.eqv (.tuple ((z :: ns).map encE)) (.tuple ((y :: ms).map encE)) = (PyData.eqv (encE z) (encE y) && PyData.eqv (.tuple (ns.map encE)) (.tuple (ms.map encE))) := by simp [PyData.eqv, PyData.eqvAll]
    rw [u, e, ih]
    by_cases h1 : z = y <;> by_cases h2 : ns = ms <;> simp [h1, h2]
theorem txts_lay : ∀ {ns : List Str}, (∀ z ∈ ns, PyData.strOk z = true) → PyData.canLayAll0 (ns.map PyData.str) = true
  | [], _ => by simp [PyData.canLayAll0]
  | z :: ns, h => by simp [PyData.canLayAll0, PyData.canLay0, h z List.mem_cons_self, txts_lay fun y hy => h y (List.mem_cons_of_mem _ hy)]
theorem txts_depth : ∀ ns : List Str, PyData.depthAll (ns.map PyData.str) = 0
  | [] => by simp [PyData.depthAll]
  | z :: ns => by simp [PyData.depthAll, PyData.depth, txts_depth ns]
theorem txts_shaped {ns : List Str} (h : ∀ z ∈ ns, PyData.strOk z = true) : SeqAt.shaped (.tuple (ns.map PyData.str)) = true := by
  have c1 : (PyData.tuple (ns.map PyData.str)).canLay0 = true := by simp [PyData.canLay0, txts_lay h]
  have c2 : (PyData.tuple (ns.map PyData.str)).depth = PyData.depthAll (ns.map PyData.str) + 1 := by first | rfl | simp [PyData.depth, Nat.add_comm]
  unfold SeqAt.shaped; rw [c1, c2, txts_depth]; rfl
theorem eds_lay : ∀ {es : List E2}, (∀ e ∈ es, OkE e) → PyData.canLayAll0 (es.map encE) = true
  | [], _ => by simp [PyData.canLayAll0]
  | e :: es, h => by simp [PyData.canLayAll0, encE_lay (h e List.mem_cons_self), eds_lay fun y hy => h y (List.mem_cons_of_mem _ hy)]
theorem eds_depth : ∀ es : List E2, PyData.depthAll (es.map encE) ≤ 1
  | [] => by simp [PyData.depthAll]
  | e :: es => by
    have a := encE_depth e; have b := eds_depth es
    simp only [List.map_cons, PyData.depthAll]; omega
theorem eds_shaped {es : List E2} (h : ∀ e ∈ es, OkE e) : SeqAt.shaped (.tuple (es.map encE)) = true := by
  have c1 : (PyData.tuple (es.map encE)).canLay0 = true := by simp [PyData.canLay0, eds_lay h]
  have c2 : (PyData.tuple (es.map encE)).depth = PyData.depthAll (es.map encE) + 1 := by first | rfl | simp [PyData.depth, Nat.add_comm]
  have := eds_depth es
  unfold SeqAt.shaped; rw [c1, c2]; simp; omega
theorem dp_txts {K : PySem.W.Frag} {H : Hp} : ∀ ns : List Str, DpAll K H (ns.map V.str) (ns.map PyData.str)
  | [] => .nil
  | z :: ns => .cons (.str z) (dp_txts ns)
theorem dp_edsT {K : PySem.W.Frag} {H : Hp} {t : Addr} {es : List Ed} (h : H t = some (.tup (es.map fun p => V.ref p.1))) (he : ∀ p ∈ es, EdAt H p) : Dp K H (.ref t) (.tuple ((es.map (·.2)).map encE)) := by
  have := dp_edges (K := K) he
  rw [List.map_map]; exact .tup (SqT.of h) this
def spGEq (C : Addr) : Sp := fun vs H Q _ => ∃ (g h : Addr) (ns ms : List Str) (es fs : List Ed), vs = [.ref g, .ref h] ∧ GrAt C H g ns es ∧ GrAt C H h ms fs ∧ (∀ z ∈ ns, PyData.strOk z = true) ∧ (∀ z ∈ ms, PyData.strOk z = true) ∧ (∀ e ∈ es.map (·.2), OkE e) ∧ (∀ e ∈ fs.map (·.2), OkE e) ∧
  Q (.bl (decide (ns = ms) && decide (es.map (·.2) = fs.map (·.2)))) H
section
variable {P : Program} {w : World} {K : PySem.W.Frag} {mg : Str → Option Value} {base : Heap}
theorem scEq : FnScope ["self", "other"] ["self", "other"] (defScope sEq) := ⟨rfl, rfl, rfl, by decide +kernel, rfl, by decide +kernel, by decide +kernel⟩
theorem ok_geq {f C : Addr} {fd : FuncData} (F : Fun K "__eq__" "Graph.__eq__" sEq f fd) (T : GTxt K mg C) (mi : mg "isinstance" = none) (kC : PySem.W.kitOne K (.ref C) (.ref C) = some true)
    (ca : PySem.W.findIn K (.ref C) "__class__" = some (some (.builtin "object.__class__"))) (sg : PySem.W.specialIn K (.builtin "object.__class__") "__get__" = some (some (.builtin "getset_descriptor.__get__"))) (tk : PySem.W.takesIn K (.builtin "object.__class__") = some true) (mo : PySem.W.mroIn K C (.type "object") = some true) : FnOk P w K mg base CX0 1 f fd ["self", "other"] (spGEq C) := by
  refine F.ok scEq (fun vs H Q E h => ?_) (fun cdv A outer s H vs Q E hr h => ?_)
  · obtain ⟨g, h, ns, ms, es, fs, rfl, _⟩ := h; rfl
  · obtain ⟨g, h, ns, ms, es, fs, rfl, G1, G2, z1, z2, o1, o2, k⟩ := h
    refine ⟨_, pss_one (ps_ret (pe_and (pe_callB call_isi (by rfl) mi (by decide +kernel) (pa_cons (pv 1) (pa_cons (pe_glob (v := .ref C) rfl T.mg rfl) pa_nil)))
      (pe_and (pe_cmpR (op_eqD hr.units) (pe_fld (pv 0) rfl) (pe_fld (pv 1) rfl) (nomark _)) (pe_one (pe_cmpR (op_eqD hr.units) (pe_fld (pv 0) rfl) (pe_fld (pv 1) rfl) (nomark _)))))), ?_⟩
    obtain ⟨⟨dx, t1, t2, g1, g2, g3⟩, ge⟩ := id G1
    obtain ⟨⟨dy, u1, u2, h1, h2, h3⟩, he⟩ := id G2
    refine ⟨_, rfl, _, _, .ref C, .ref C, true, rfl, .own C, .base (.ins h1 T.cl ca sg tk mo), kC, _, rfl, iteT ?_⟩
    refine ⟨_, rfl, g, C, dx, _, _, rfl, g1, T.cl, T.nV, gf_v _ _, _, rfl, h, C, dy, _, _, rfl, h1, T.cl, T.nV, gf_v _ _, _, _, .tup (SqT.of g2) (dp_txts ns), .tup (SqT.of h2) (dp_txts ms), txts_shaped z1, txts_shaped z2, _, rfl, ?_⟩
    rw [eqvAll_txt]
    cases c : decide (ns = ms) with
    | false => rw [c] at k; exact iteF k
    | true =>
      rw [c] at k
      refine iteT ⟨_, rfl, g, C, dx, _, _, rfl, g1, T.cl, T.nE, gf_e _ _, _, rfl, h, C, dy, _, _, rfl, h1, T.cl, T.nE, gf_e _ _, _, _, dp_edsT g3 ge, dp_edsT h3 he, eds_shaped o1, eds_shaped o2, ?_⟩
      rw [eqvAll_eds]; exact k
end
end CP
/-! errors with one field; NoEdge.__init__ -/
namespace CP
open PySem L2
abbrev sI6 : Stmt := inClass (top 5) 0
def spXI (C : Addr) : Str → Sp := fun f vs H Q _ => ∃ (a : Addr) (v : V), vs = [.ref a, v] ∧ H a = some (exo a C none) ∧ ∀ d, H d = none → d ≠ a → Q .non (L2.upd (L2.upd H d (exd d [(f, v)])) a (exo a C (some d)))
/-- what is asked to raise C(v) -/
theorem mk_raise {C a : Addr} {f : Str} {H1 : Hp} {v : V} {R : XK} (ha : H1 a = none) (k : ∀ d H2, H1 d = none → H2 d = some (.xd [(f, v)]) → Same H1 H2 → R (.ref C) (some d) H2) :
    spXI C f [.ref a, v] (L2.upd H1 a (exo a C none)) (fun v H2 => v = .non ∧ ∃ (d : Addr) (fs : List (Str × V)), H2 a = some (exo a C (some d)) ∧ H2 d = some (exd d fs) ∧ H1 d = none ∧ R (.ref C) (some d) (L2.upd (del H2 a) d (.xd fs))) E0 := by
  refine ⟨a, v, rfl, upd_same, fun d hd hda => ?_⟩
  have hd' : H1 d = none := by rw [upd_ne hda] at hd; exact hd
  refine ⟨rfl, d, _, upd_same, by rw [upd_ne hda, upd_same], hd', k d _ hd' upd_same fun b o e => ?_⟩
  rw [upd_ne (ne_of_none e hd'), del_ne (ne_of_none e ha), upd_ne (ne_of_none e ha), upd_ne (ne_of_none e hd'), upd_ne (ne_of_none e ha)]; exact e
theorem op_in2 {X : Cx} (K : PySem.W.Frag) (h : X.K = K) : OpR X (compareOp .In) (rIn K false) := h ▸ op_in_seq
theorem ap_ne {e f : E2} (h : apB e f = true) : e ≠ f := fun z => by
  subst z
  exact (of_decide_eq_true h).1 rfl
theorem ed_str {ns : List Str} {es : List E2} {H : Hp} {x : V} {d : PyData} (o : Od H x d) (h : edB ns es d = true) : ∃ (p : Addr) (u v : Str), x = .ref p ∧ H p = some (.tup [.str u, .str v]) ∧ d = .tuple [.str u, .str v] ∧ (u, v) ∈ es := by
  cases o with
  | @tup p xs ds hp al =>
    match ds, h, al with
    | [.str u, .str v], h, .cons oa (.cons ob .nil) =>
      cases oa; cases ob
      have h' : ((decide (u ∈ ns) && (decide (v ∈ ns) && ltS u v)) && decide ((u, v) ∈ es)) = true := h
      simp only [Bool.and_eq_true, decide_eq_true_eq] at h'
      exact ⟨p, u, v, rfl, hp, rfl, h'.2⟩
  | _ => cases h
section
variable {P : Program} {w : World} {K : PySem.W.Frag} {mg : Str → Option Value} {base : Heap}
theorem scI6 : FnScope ["self", "edge"] ["self", "edge"] (defScope sI6) := ⟨rfl, rfl, rfl, by decide +kernel, rfl, by decide +kernel, by decide +kernel⟩
theorem ok_I6 {f C : Addr} {fd : FuncData} (F : Fun K "__init__" "NoEdge.__init__" sI6 f fd) (T : OexC K C) (no : PySem.W.findIn K (.ref C) "edge" = some none) : FnOk P w K mg base CX0 1 f fd ["self", "edge"] (spXI C "edge") := by
  refine F.ok scI6 (fun vs H Q E h => ?_) (fun cdv A outer s H vs Q E hr h => ?_)
  · obtain ⟨a, v, rfl, _⟩ := h; rfl
  · obtain ⟨a, v, rfl, ha, k⟩ := h
    exact ⟨_, pss_one (ps_ost (pv 0) (pv 1)), _, rfl, _, rfl, a, C, rfl, T, no, .inl ⟨ha, k⟩⟩
end
end CP
/-! dict(a list of (edge, value)) -/
namespace CP
open PySem PySem.Spec PyProof.Rows PySem.W L2
abbrev DtP := Addr × (Ed × V)
def keyE (e : E2) : List Key := [.inr e.1, .inr e.2]
section
variable {X : Cx}
theorem dt_vals {pins : List (Addr × Obj)} {σ : L2.St} {H : Hp} {s : Shared} (I : L2.Inv X pins σ H s) : ∀ {ps : List DtP}, (∀ p ∈ ps, H p.1 = some (.tup [.ref p.2.1.1, p.2.2])) →
    ∃ qs : List (DtP × Value), qs.map (·.1) = ps ∧ ∀ q ∈ qs, RelV q.1.2.2 q.2 ∧ PairAt s.heap q.1.1 (.ref q.1.2.1.1) q.2
  | [], _ => ⟨[], rfl, fun _ z => nomatch z⟩
  | p :: ps, h => by
    obtain ⟨qs, e, a⟩ := dt_vals I (ps := ps) fun q hq => h q (List.mem_cons_of_mem _ hq)
    obtain ⟨its, r, ht, _⟩ := I.tuple (SqT.of (h p List.mem_cons_self))
    obtain ⟨v1, v2, rfl, r1, r2⟩ := vals2 r
    cases (show v1 = Value.ref p.2.1.1 from r1)
    refine ⟨(p, v2) :: qs, by rw [List.map_cons, e], fun q hq => ?_⟩
    rcases List.mem_cons.mp hq with rfl | hq
    · exact ⟨r2, .inl ht⟩
    · exact a q hq
def rDictT : List V → Hp → VK → Prop := fun xs H Q => ∃ (a : Addr) (ps : List DtP), xs = [.ref a] ∧ H a = some (.lst (ps.map fun p => V.ref p.1)) ∧ (∀ p ∈ ps, H p.1 = some (.tup [.ref p.2.1.1, p.2.2])) ∧ (∀ p ∈ ps, EdAt H p.2.1) ∧ (ps.map fun p => p.2.1.2).Nodup ∧ ps.length < 1000 ∧
  ∀ p kvs, H p = none → Q (.ref p) (L2.upd H p (.dT kvs))
theorem call_dictT (calm : X.calm = true) (hu : X.A.units + 64 < cLine) : CallR X (.type "dict") rDictT := by
  intro pins s σ H xs us Q I r h
  obtain ⟨a, ps, rfl, ha, hp, he, nd, few, k⟩ := h
  rw [Vals.ref1 r]
  obtain ⟨its, rv, pl, hz⟩ := I.list (SqL.of ha)
  have ei := refs_only (κ := Ed × V) rv
  subst ei
  obtain ⟨qs, rfl, hq⟩ := dt_vals I hp
  obtain ⟨o, n, ho, hc, hd, hdat⟩ := pl
  have len : (qs.map (·.1)).length = qs.length := List.length_map ..
  have at_ : ∀ {j : Nat} {q : DtP × Value}, qs[j]? = some q → q ∈ qs := fun e => List.mem_of_getElem? e
  refine call_dict_pairsH (knd := tupleKind (mixKind X.prog X.w)) (ps := qs.map fun q => (keyE q.1.2.1.2, q.1.2.1.1, q.2))
    (PairArg.list a _ (fun j => ((qs[j]?).map (·.1.1)).getD 0) (qs.map fun q => (Value.ref q.1.2.1.1, q.2))) (I.ok.hd calm) (by show X.A.units + 1 + 1 < cLine; omega) ⟨⟨o, n, ho, hc, hd, hdat⟩, ?_⟩ ⟨by simp, ?_⟩ ?_ (by rw [List.length_map, sizeLine_eq]; omega) fun h' tk hd' kp => ?_
  · refine ⟨by simp, fun j kk v e => ?_⟩
    rw [List.getElem?_map] at e
    cases c : qs[j]? with
    | none => rw [c] at e; cases e
    | some q =>
      rw [c] at e
      cases Option.some.inj e
      refine ⟨by simp [c], ?_⟩
      have := (hq q (at_ c)).2
      simpa [c] using this
  · intro i key v e
    have e : (qs.map fun q => (Value.ref q.1.2.1.1, q.2))[i]? = some (key, v) := e
    rw [List.getElem?_map] at e
    cases c : qs[i]? with
    | none => rw [c] at e; cases e
    | some q =>
      rw [c] at e
      cases Option.some.inj e
      exact ⟨keyE q.1.2.1.2, q.1.2.1.1, by rw [List.getElem?_map, c]; rfl, rfl⟩
  · intro h2 keep x hx
    obtain ⟨q, hq', rfl⟩ := List.mem_map.mp hx
    have e1 : EdAt H q.1.2.1 := he q.1 (List.mem_map.mpr ⟨q, hq', rfl⟩)
    obtain ⟨o1, its1, m1, x1, x2, x3, x4⟩ := key_of (ks := keyE q.1.2.1.2) I.hok e1
    exact ⟨o1, its1, m1, keep _ _ (Nat.ne_of_lt (Heap.lt_size x1)) (by simp) x1, x2, x3, x4⟩
  · have ndk : ((qs.map fun q => (keyE q.1.2.1.2, q.1.2.1.1, q.2)).map (·.1)).Nodup := by
      rw [List.map_map] at nd ⊢
      have : ((fun x : List Key × Addr × Value => x.1) ∘ fun q : DtP × Value => (keyE q.1.2.1.2, q.1.2.1.1, q.2)) = keyE ∘ ((fun p : DtP => p.2.1.2) ∘ fun q : DtP × Value => q.1) := rfl
      rw [this, ← List.map_map]
      refine List.Pairwise.map _ (fun x y n e => n ?_) nd
      simp only [keyE, List.cons.injEq, Sum.inr.injEq, and_true] at e
      exact Prod.ext e.1 e.2
    rw [storedAllH_nil_of_nodup _ ndk] at hd'
    obtain ⟨o2, es, ep, y1, y2, y3, y4, y5, y6⟩ := hd'
    have hm : (s.heap.objs.size == sysModules) = false := beq_eq_false_iff_ne.mpr (Nat.ne_of_gt I.big)
    have kp' : ∀ b u, s.heap.get? b = some u → h'.get? b = some u := fun b u e => kp b u (by simp) e
    have pr : ∀ {l : List (DtP × Value)}, (∀ q ∈ l, q ∈ qs) → Paired (fun (p : List Key × V) (q : List Key × Addr × Value) => p.1 = q.1 ∧ (L2.upd H s.heap.objs.size (.dT (qs.map fun q => (keyE q.1.2.1.2, q.1.2.2)))) q.2.1 = some (.tup (p.1.map kV)) ∧ RelV p.2 q.2.2) (l.map fun q => (keyE q.1.2.1.2, q.1.2.2)) (l.map fun q => (keyE q.1.2.1.2, q.1.2.1.1, q.2)) := by
      intro l
      induction l with
      | nil => intro _; exact .nil
      | cons q l ih =>
        intro hl
        have m := hl q List.mem_cons_self
        have e1 : EdAt H q.1.2.1 := he q.1 (List.mem_map.mpr ⟨q, m, rfl⟩)
        refine .cons ⟨rfl, ?_, (hq q m).1⟩ (ih fun x hx => hl x (List.mem_cons_of_mem _ hx))
        rw [upd_ne (ne_of_none e1 (I.hok.fresh (Nat.le_refl _)))]; exact e1
    exact ⟨.ref s.heap.objs.size, L2.upd H s.heap.objs.size (.dT (qs.map fun q => (keyE q.1.2.1.2, q.1.2.2))), I.laid (t' := tk) kp' (Nat.le_refl _) (show ObjOk X.prog X.w _ _ _ (.dT _) from ⟨by rw [List.length_map, sizeLine_eq]; omega, hm, _, pr fun _ z => z, o2, es, ep, y1, y2, y3, y4, y6⟩), rfl, k _ _ (I.hok.fresh (Nat.le_refl _))⟩
end
end CP
/-! rows (lists or tuples) walked; is_row at any value -/
namespace CP
open PySem PySem.Spec PyProof.Rows L2
theorem odAt {H : Hp} : ∀ {vs : List V} {ds : List PyData} {i : Nat} {x : V}, OdAll H vs ds → vs[i]? = some x → ∃ d, ds[i]? = some d ∧ Od H x d
  | _, _, _, _, .nil, h => by simp at h
  | _, _, 0, x, .cons (v := v) o t, h => by
    obtain rfl : v = x := Option.some.inj h
    exact ⟨_, rfl, o⟩
  | _, _, i + 1, x, .cons o t, h => odAt (i := i) t h
theorem odTxt {H : Hp} : ∀ ns : List Str, OdAll H (ns.map V.str) (ns.map PyData.str)
  | [] => .nil
  | z :: ns => .cons (.str z) (odTxt ns)
def rowB : PyData → Bool
  | .list _ => true
  | .tuple _ => true
  | _ => false
def itD : PyData → Option (List PyData)
  | .list ds => some ds
  | .tuple ds => some ds
  | _ => none
theorem od_cases {H : Hp} {x : V} {d : PyData} (o : Od H x d) : (rowB d = false ∧ itD d = none) ∨ ∃ a xs ds, x = .ref a ∧ RowAt H a xs ∧ OdAll H xs ds ∧ rowB d = true ∧ itD d = some ds := by
  cases o with
  | lst h al => exact .inr ⟨_, _, _, rfl, .inl h, al, rfl, rfl⟩
  | tup h al => exact .inr ⟨_, _, _, rfl, .inr h, al, rfl, rfl⟩
  | _ => exact .inl ⟨rfl, rfl⟩
def spRowG : Sp := fun vs H Q _ => ∃ (x : V) (d : PyData), vs = [x] ∧ Od H x d ∧ ∀ H', Same H H' → Q (.bl (rowB d)) H'
section
variable {P : Program} {w : World} {K : PySem.W.Frag} {mg : Str → Option Value} {base : Heap}
theorem kit0 {K : PySem.W.Frag} {t : String} (h : t ∈ ["NoneType", "int", "str", "dict"]) : PySem.W.kitAny K (.type t) [.type "list", .type "tuple"] = some false := by
  simp only [List.mem_cons, List.not_mem_nil, or_false] at h
  rcases h with rfl | rfl | rfl | rfl
  all_goals exact kitAny_cons (kit_ty (b := "list") (r := false) (by decide +kernel)) (fun _ => kitAny_cons (kit_ty (b := "tuple") (r := false) (by decide +kernel)) (fun _ => rfl) (fun z => nomatch z)) (fun z => nomatch z)
theorem ok_rowG {f : Addr} {fd : FuncData} (F : Fun K "is_row" "is_row" sRow f fd) (mi : mg "isinstance" = none) (ml : mg "list" = none) (mt : mg "tuple" = none) : FnOk P w K mg base CX0 1 f fd ["value"] spRowG := by
  refine F.ok scRow (fun vs H Q E h => ?_) (fun cdv A outer s H vs Q E hr h => ?_)
  · obtain ⟨x, d, rfl, _⟩ := h; rfl
  · obtain ⟨x, d, rfl, o, k⟩ := h
    refine ⟨_, pss_one (ps_ret (pe_callB call_isiT (by rfl) mi (by decide +kernel) (pa_cons (pv 0) (pa_cons (pe_tup (pa_cons (pe_bltn (v := .ty "list") (by rfl) ml (by decide +kernel) rfl) (pa_cons (pe_bltn (v := .ty "tuple") (by rfl) mt (by decide +kernel) rfl) pa_nil))) pa_nil)))), ?_⟩
    refine ⟨_, rfl, by show 2 ≤ sizeLine; decide, fun t ht => ?_⟩
    have s1 : Same H (L2.upd H t (.tup [.ty "list", .ty "tuple"])) := fun c o e => by rw [upd_ne (ne_of_none e ht)]; exact e
    cases o with
    | non => exact ⟨_, t, _, .type "NoneType", _, false, rfl, upd_same, .cons (.ty _) (.cons (.ty _) .nil), .base .non, kit0 (by decide), k _ s1⟩
    | int i => exact ⟨_, t, _, .type "int", _, false, rfl, upd_same, .cons (.ty _) (.cons (.ty _) .nil), .base (.int i), kit0 (by decide), k _ s1⟩
    | str z => exact ⟨_, t, _, .type "str", _, false, rfl, upd_same, .cons (.ty _) (.cons (.ty _) .nil), .base (.str z), kit0 (by decide), k _ s1⟩
    | dct h => exact ⟨_, t, _, .type "dict", _, false, rfl, upd_same, .cons (.ty _) (.cons (.ty _) .nil), .base (.dK (s1 _ _ h)), kit0 (by decide), k _ s1⟩
    | dcT h => exact ⟨_, t, _, .type "dict", _, false, rfl, upd_same, .cons (.ty _) (.cons (.ty _) .nil), .base (.dT (s1 _ _ h)), kit0 (by decide), k _ s1⟩
    | lst h _ => exact ⟨_, t, _, .type "list", _, true, rfl, upd_same, .cons (.ty _) (.cons (.ty _) .nil), .base (.lst (s1 _ _ h)), kit2 (.inl rfl), k _ s1⟩
    | tup h _ => exact ⟨_, t, _, .type "tuple", _, true, rfl, upd_same, .cons (.ty _) (.cons (.ty _) .nil), .base (.tup (s1 _ _ h)), kit2 (.inr rfl), k _ s1⟩
end
/-- enumerate(a list or a tuple) -/
def iEnumS (ta : TA) : TI := fun σ H R => ta σ H fun vs H1 => ∃ a xs, vs = [.ref a] ∧ RowAt H1 a xs ∧ ∀ J G, Walk J xs.length G (YPair (fun i => some (.int (i : Nat))) (fun i => xs[i]?)) → (∀ H, H a = H1 a → G H) → R J H1
theorem pi_enumS {X : Cx} {e : Expr} {ta : TA} {p pos tpos : Pos} {elts : List Expr} {kk : Nat} (hg : Gl X "enumerate") (hm : X.mg "enumerate" = none) (ha : PA X [e] ta) (hs : starEach [e] X.env = [(false, eval e X.env)] := by rfl) :
    PI X (.Tuple elts kk tpos) (.Call (.Name "enumerate" p) [e] [] pos) (iEnumS ta) := by
  refine ⟨fun pins s σ H R I h => ?_⟩
  refine Call_ (ld_blt I hg hm boot_enumerate (PyProof.Rows.callWith_type1 (thn (ha.run pos pins s σ H _ I h) fun us s1 ⟨vs, H1, I1, r1, a, xs, ex, hrow, q⟩ => ?_) hs rfl))
  subst ex
  rw [Vals.ref1 r1]
  have fin : ∀ b ∈ [s1.heap.objs.size + 1, s1.heap.objs.size], FpOk X pins H1 b := fun b hb => by
    have hle : s1.heap.objs.size ≤ b := by
      rcases (show b = s1.heap.objs.size + 1 ∨ b = s1.heap.objs.size by simpa using hb) with z | z
      · rw [z]; exact Nat.le_add_right _ _
      · rw [z]; exact Nat.le_refl _
    exact I1.fpOk hle (I1.hok.fresh hle)
  rcases hrow with hq | hq
  · obtain ⟨its, rv, p', hz⟩ := I1.list (SqL.of hq)
    refine call_enumerate_list p'.isList fun h' he hit hsz hk => wpAny_pyIter_enum he ?_
    have I2 : L2.Inv X pins σ H1 { s1 with heap := h' } := I1.kept (t' := s1.toks) hk
    exact ⟨s1.heap.objs.size + 1, [s1.heap.objs.size + 1, s1.heap.objs.size], _, _, H1, rfl, I2, turn_enum a (s1.heap.objs.size + 1) s1.heap.objs.size, ⟨⟨.none, he⟩, hit, Nat.succ_ne_self _⟩, fin, q (Ite X.K a) _ walk_enum fun H s => SqL.of (s.trans hq)⟩
  · obtain ⟨its, rv, p', hz⟩ := I1.tuple (SqT.of hq)
    refine call_enumT (items := its.toArray) p' fun h' he hit hk => wpAny_pyIter_enum he ?_
    have I2 : L2.Inv X pins σ H1 { s1 with heap := h' } := I1.kept (t' := s1.toks) hk
    exact ⟨s1.heap.objs.size + 1, [s1.heap.objs.size + 1, s1.heap.objs.size], _, _, H1, rfl, I2, turn_enumT a (s1.heap.objs.size + 1) s1.heap.objs.size, ⟨⟨.none, he⟩, hit, Nat.succ_ne_self _⟩, fin, q (ItT X.K a) _ walk_enumT fun H s => SqT.of (s.trans hq)⟩
end CP
/-! is_pair, check_record, check_carries at any value -/
namespace CP
open PySem PySem.Spec PyProof.Rows L2
abbrev sIsPair : Stmt := top 21
abbrev sCheckR : Stmt := top 22
abbrev sI1 : Stmt := inClass (top 3) 0
def edOf : PyData → E2
  | .tuple [.str u, .str v] => (u, v)
  | _ => (default, default)
def ppOf : PyData → E2 × E2
  | .tuple [e, f] => (edOf e, edOf f)
  | _ => ((default, default), (default, default))
def prB (ns : List Str) (es : List E2) : PyData → Bool
  | .tuple [e, f] => edB ns es e && (edB ns es f && (ltE (edOf e) (edOf f) && apB (edOf e) (edOf f)))
  | _ => false
/-- the first item that is no pair or stood before -/
def badFrom (ns : List Str) (es : List E2) : List (E2 × E2) → Nat → List PyData → Option Nat
  | _, _, [] => none
  | seen, i, d :: ds => if (prB ns es d && !decide (ppOf d ∈ seen)) = true then badFrom ns es (ppOf d :: seen) (i + 1) ds else some i
def recBad (ns : List Str) (es : List E2) (d : PyData) : Option Int := match itD d with
  | none => some (-1)
  | some ds => (badFrom ns es [] 0 ds).map fun i => (i : Int)
def badC (ns : List Str) (es : List E2) : Nat → List PyData → Option Nat
  | _, [] => none
  | i, d :: ds => if caB ns es d = true then badC ns es (i + 1) ds else some i
def carBad (ns : List Str) (es : List E2) (d : PyData) : Option Int := match itD d with
  | none => some (-1)
  | some ds => (badC ns es 0 ds).map fun i => (i : Int)
theorem prB_no {ns : List Str} {es : List E2} {d : PyData} (h : coupB d = false) : prB ns es d = false := by
  unfold prB; split
  · cases h
  · rfl
def spIsPair (C : Addr) : Sp := fun vs H Q _ => ∃ (g : Addr) (ns : List Str) (es : List Ed) (x : V) (d : PyData), vs = [.ref g, x] ∧ GrAt C H g ns es ∧ Od H x d ∧ Q (.bl (prB ns (es.map (·.2)) d)) H
/-- what is said when NoRecord(i) or NoCarry(i) leaves -/
abbrev RaisesAt (H : Hp) (E : XK) (C : Addr) (i : Int) : Prop := ∀ dd H', H dd = none → H' dd = some (.xd [("at", .int i)]) → Same H H' → E (.ref C) (some dd) H'
def spCheckR (C Cr : Addr) : Sp := fun vs H Q E => ∃ (g : Addr) (ns : List Str) (es : List Ed) (x : V) (d : PyData), vs = [.ref g, x] ∧ GrAt C H g ns es ∧ Od H x d ∧ (∀ ds, itD d = some ds → ds.length < 200) ∧
  (∀ i, recBad ns (es.map (·.2)) d = some i → RaisesAt H E Cr i) ∧ (recBad ns (es.map (·.2)) d = none → ∀ H', Same H H' → Q .non H')
def spCheckC (C Cc : Addr) : Sp := fun vs H Q E => ∃ (g : Addr) (ns : List Str) (es : List Ed) (x : V) (d : PyData), vs = [.ref g, x] ∧ GrAt C H g ns es ∧ Od H x d ∧
  (∀ i, carBad ns (es.map (·.2)) d = some i → RaisesAt H E Cc i) ∧ (carBad ns (es.map (·.2)) d = none → ∀ H', Same H H' → Q .non H')
/-- a pair among values: its tuple and those of its edges -/
theorem pr_str {ns : List Str} {es : List E2} {H : Hp} {x : V} {d : PyData} (o : Od H x d) (h : prB ns es d = true) : ∃ b, x = .ref b ∧ PpH H b (ppOf d) := by
  cases o with
  | @tup q xs ds hq al =>
    match ds, h, al with
    | [da, db], h, .cons oa (.cons ob .nil) =>
      have h' : (edB ns es da && (edB ns es db && (ltE (edOf da) (edOf db) && apB (edOf da) (edOf db)))) = true := h
      simp only [Bool.and_eq_true] at h'
      obtain ⟨p, u, v, rfl, hp, rfl, m⟩ := ed_str oa h'.1
      obtain ⟨p2, u2, v2, rfl, hp2, rfl, m2⟩ := ed_str ob h'.2.1
      exact ⟨q, rfl, p, p2, hq, hp, hp2⟩
  | _ => cases h
section
variable {P : Program} {w : World} {K : PySem.W.Frag} {mg : Str → Option Value} {base : Heap}
theorem scIsPair : FnScope ["graph", "value", "one", "other"] ["graph", "value"] (defScope sIsPair) := ⟨rfl, rfl, rfl, by decide +kernel, rfl, by decide +kernel, by decide +kernel⟩
theorem ok_ispair {f fC fE fA C : Addr} {fd fdC fdE fdA : FuncData} (F : Fun K "is_pair" "is_pair" sIsPair f fd)
    (mC : mg "is_couple" = some (.ref fC)) (FC : FnOk P w K mg base CX0 1 fC fdC ["value"] spCoupleG) (kC : PySem.W.keepIn K (.ref fC) = true) (bC : Binds K fdC ["value"] [])
    (mE : mg "is_edge" = some (.ref fE)) (FE : FnOk P w K mg base CX0 3 fE fdE ["graph", "value"] (spIsEdge C)) (kE : PySem.W.keepIn K (.ref fE) = true) (bE : Binds K fdE ["graph", "value"] [])
    (mA : mg "are_apart" = some (.ref fA)) (FA : FnOk P w K mg base CX0 1 fA fdA ["one", "other"] spApart) (kA : PySem.W.keepIn K (.ref fA) = true) (bA : Binds K fdA ["one", "other"] []) : FnOk P w K mg base CX0 4 f fd ["graph", "value"] (spIsPair C) := by
  refine F.ok scIsPair (fun vs H Q E h => ?_) (fun cdv A outer s H vs Q E hr h => ?_)
  · obtain ⟨g, ns, es, x, d, rfl, _⟩ := h; rfl
  · obtain ⟨g, ns, es, x, d, rfl, G, o, k⟩ := h
    have hr1 : Room 1 _ := hr.mono (by decide)
    refine ⟨_, pss_cons (ps_if (pt_not (pt_val (pe_call FC hr1 rfl mC kC bC .nil pass0 (pa_cons (pv 1) pa_nil)))) (pss_one (ps_ret pe_bl)) pss_nil)
      (pss_cons (ps_asg (pv 1) (pg_tup rfl (pgs_cons (pg_name (i := 2) scIsPair.nd rfl (Or.inl rfl)) (pgs_cons (pg_name (i := 3) scIsPair.nd rfl (Or.inl rfl)) pgs_nil))))
      (pss_one (ps_ret (pe_and (pe_call FE hr rfl mE kE bE .nil pass0 (pa_cons (pv 0) (pa_cons (pv 2) pa_nil))) (pe_and (pe_call FE hr rfl mE kE bE .nil pass0 (pa_cons (pv 0) (pa_cons (pv 3) pa_nil)))
        (pe_and (pe_cmpR (op_ltE hr.units) (pv 2) (pv 3) (nomark _)) (pe_one (pe_call FA hr1 rfl mA kA bA .nil pass0 (pa_cons (pv 2) (pa_cons (pv 3) pa_nil)))))))))), ?_⟩
    refine ⟨_, rfl, x, d, rfl, o, _, rfl, ?_⟩
    cases c : coupB d with
    | false => rw [prB_no c] at k; exact iteT k
    | true =>
      refine iteF ?_
      cases o with
      | @tup p xs ds hp al =>
        match ds, c, al, k with
        | [da, db], _, .cons (v := va) oa (.cons (v := vb) ob .nil), k =>
          refine ⟨_, rfl, p, _, rfl, SqT.of hp, rfl, _, _, rfl, _, _, rfl, rfl, ?_⟩
          have k : Q (.bl (edB ns (es.map (·.2)) da && (edB ns (es.map (·.2)) db && (ltE (edOf da) (edOf db) && apB (edOf da) (edOf db))))) H := k
          refine ⟨_, rfl, _, rfl, g, ns, es, va, da, rfl, G, oa, _, rfl, ?_⟩
          cases c1 : edB ns (es.map (·.2)) da with
          | false => rw [c1] at k; exact iteF k
          | true =>
            rw [c1] at k
            refine iteT ⟨_, rfl, _, rfl, g, ns, es, vb, db, rfl, G, ob, _, rfl, ?_⟩
            cases c2 : edB ns (es.map (·.2)) db with
            | false => rw [c2] at k; exact iteF k
            | true =>
              rw [c2] at k
              obtain ⟨p1, u, v, rfl, hp1, rfl, _⟩ := ed_str oa c1
              obtain ⟨p2, x, y, rfl, hp2, rfl, _⟩ := ed_str ob c2
              have k : Q (.bl (ltE (u, v) (x, y) && apB (u, v) (x, y))) H := k
              refine iteT ⟨_, rfl, _, rfl, (p1, u, v), (p2, x, y), rfl, rfl, hp1, hp2, _, rfl, ?_⟩
              cases c3 : ltE (u, v) (x, y) with
              | false => rw [c3] at k; exact iteF k
              | true =>
                rw [c3] at k
                exact iteT ⟨_, rfl, _, rfl, p1, p2, u, v, x, y, rfl, hp1, hp2, k⟩
      | _ => cases c
theorem scI1 : FnScope ["self", "at"] ["self", "at"] (defScope sI1) := ⟨rfl, rfl, rfl, by decide +kernel, rfl, by decide +kernel, by decide +kernel⟩
theorem ok_I1 {f C : Addr} {fd : FuncData} (F : Fun K "__init__" "NoRecord.__init__" sI1 f fd) (T : OexC K C) (no : PySem.W.findIn K (.ref C) "at" = some none) : FnOk P w K mg base CX0 1 f fd ["self", "at"] (spXI C "at") := by
  refine F.ok scI1 (fun vs H Q E h => ?_) (fun cdv A outer s H vs Q E hr h => ?_)
  · obtain ⟨a, v, rfl, _⟩ := h; rfl
  · obtain ⟨a, v, rfl, ha, k⟩ := h
    exact ⟨_, pss_one (ps_ost (pv 0) (pv 1)), _, rfl, _, rfl, a, C, rfl, T, no, .inl ⟨ha, k⟩⟩
theorem scCheckR : FnScope ["graph", "value", "seen", "at", "pair"] ["graph", "value"] (defScope sCheckR) := ⟨rfl, rfl, rfl, by decide +kernel, rfl, by decide +kernel, by decide +kernel⟩
/-- what stands at d has been seen -/
theorem bad_step {ns : List Str} {es : List E2} {ds : List PyData} {i : Nat} {d : PyData} (h : ds[i]? = some d) {seen : List (E2 × E2)} (base : badFrom ns es [] 0 ds = badFrom ns es seen i (ds.drop i)) :
    badFrom ns es [] 0 ds = if (prB ns es d && !decide (ppOf d ∈ seen)) = true then badFrom ns es (ppOf d :: seen) (i + 1) (ds.drop (i + 1)) else some i := by
  rw [base]
  have e : ds.drop i = d :: ds.drop (i + 1) := by
    obtain ⟨hl, rfl⟩ := List.getElem?_eq_some_iff.mp h
    exact List.drop_eq_getElem_cons hl
  rw [e]; rfl
theorem badC_step {ns : List Str} {es : List E2} {ds : List PyData} {i : Nat} {d : PyData} (h : ds[i]? = some d) (base : badC ns es 0 ds = badC ns es i (ds.drop i)) :
    badC ns es 0 ds = if caB ns es d = true then badC ns es (i + 1) (ds.drop (i + 1)) else some i := by
  rw [base]
  have e : ds.drop i = d :: ds.drop (i + 1) := by
    obtain ⟨hl, rfl⟩ := List.getElem?_eq_some_iff.mp h
    exact List.drop_eq_getElem_cons hl
  rw [e]; rfl
theorem ok_checkR {f fR fP fI C Cr : Addr} {fd fdR fdP fdI : FuncData} (F : Fun K "check_record" "check_record" sCheckR f fd) (me : mg "enumerate" = none) (mset : mg "set" = none)
    (mR : mg "is_row" = some (.ref fR)) (FR : FnOk P w K mg base CX0 1 fR fdR ["value"] spRowG) (kR : PySem.W.keepIn K (.ref fR) = true) (bR : Binds K fdR ["value"] [])
    (mP : mg "is_pair" = some (.ref fP)) (FP : FnOk P w K mg base CX0 4 fP fdP ["graph", "value"] (spIsPair C)) (kP : PySem.W.keepIn K (.ref fP) = true) (bP : Binds K fdP ["graph", "value"] [])
    (mN : mg "NoRecord" = some (.ref Cr)) (TN : OexC K Cr) (iN : PySem.W.findIn K (.ref Cr) "__init__" = some (some (.ref fI))) (tN : PySem.W.typeIn K (.ref fI) = some (.type "function")) (GI : FnOk P w K mg base CX0 1 fI fdI ["self", "at"] (spXI Cr "at")) (bI : Binds K fdI ["self", "at"] []) :
    FnOk P w K mg base (L2.CX P w) 5 f fd ["graph", "value"] (spCheckR C Cr) := by
  refine F.okX scCheckR (fun vs H Q E h => ?_) (fun cdv A outer s H vs Q E hr h => ?_)
  · obtain ⟨g, ns, es, x, d, rfl, _⟩ := h; rfl
  · obtain ⟨g, ns, es, x, d, rfl, G, o, len, kE, kQ⟩ := h
    have hr1 : Room 1 _ := hr.mono (by decide)
    have hr2 : Room 2 _ := hr.mono (by decide)
    refine ⟨_, pss_cons (ps_if (pt_not (pt_val (pe_call FR hr1 rfl mR kR bR .nil pass0 (pa_cons (pv 1) pa_nil)))) (pss_one (ps_raise rfl (takes_of rfl rfl rfl rfl) (pmk_oex TN iN tN GI hr2 bI .nil pass0 rfl mN (pa_cons (pe_un un_neg pe_int) pa_nil)))) pss_nil)
      (pss_cons (ps_set (i := 2) scCheckR.nd rfl (Or.inl rfl) (pe_callTy0 (cr_set0P P w rfl rfl) (by rfl) mset (by decide +kernel)))
      (pss_one (ps_for (passes_of rfl) rfl (pi_enumS (by rfl) me (pa_cons (pv 1) pa_nil)) (pg_tup rfl (pgs_cons (pg_name (i := 3) scCheckR.nd rfl (Or.inl rfl)) (pgs_cons (pg_name (i := 4) scCheckR.nd rfl (Or.inl rfl)) pgs_nil)))
        (pss_cons (ps_if (PW.pt (pw_or (pt_not (pt_val (pe_call FP hr rfl mP kP bP .nil pass0 (pa_cons (pv 0) (pa_cons (pv 4) pa_nil))))) (pw_or1 (pt_cmpR (or_sinP P w rfl rfl hr.units) (pv 4) (pv 2) rfl))))
            (pss_one (ps_raise rfl (takes_of rfl rfl rfl rfl) (pmk_oex TN iN tN GI hr2 bI .nil pass0 rfl mN (pa_cons (pv 3) pa_nil)))) pss_nil)
        (pss_one (ps_expr (pe_saddP P w rfl rfl hr.units (pv 2) (pa_cons (pv 4) pa_nil)))))))), ?_⟩
    refine ⟨_, rfl, x, d, rfl, o, fun H1 s1 => ⟨_, rfl, ?_⟩⟩
    have leave : ∀ {Hx : Hp} {i : Int} {a' : Addr}, Same H Hx → recBad ns (es.map (·.2)) d = some i → Hx a' = none → spXI Cr "at" [.ref a', .int i] (L2.upd Hx a' (exo a' Cr none)) (fun v H2 => v = .non ∧ ∃ (d : Addr) (fs : List (Str × V)), H2 a' = some (exo a' Cr (some d)) ∧ H2 d = some (exd d fs) ∧ Hx d = none ∧ E (.ref Cr) (some d) (L2.upd (del H2 a') d (.xd fs))) E0 := fun sx ei ha => mk_raise (R := fun c dd H' => E c dd H') ha fun dd H' h1 h2 h3 => kE _ ei dd H' (sx.free h1) h2 (sx.trans h3)
    rcases od_cases o with ⟨r, it⟩ | ⟨a, xs, ds, rfl, hrow, al, r, it⟩
    · rw [r]
      exact iteT ⟨1, rfl, by show 1 ≤ 1000; decide, fun a' ha => leave s1 (by unfold recBad; rw [it]) ha⟩
    rw [r]
    have er : recBad ns (es.map (·.2)) d = (badFrom ns (es.map (·.2)) [] 0 ds).map fun i => (i : Int) := by unfold recBad; rw [it]
    have few := len ds it
    have hl := odLen al
    refine iteF ⟨rfl, fun q hq => ?_⟩
    have hrow1 := hrow.same s1
    have s12 : Same H1 (L2.upd H1 q (SetN P w q [])) := Same.new hq
    have e2 : (L2.upd H1 q (SetN P w q [])) q = some (SetN P w q []) := upd_same
    generalize L2.upd H1 q (SetN P w q []) = H2 at s12 e2 ⊢
    have hrow2 := hrow1.same s12
    refine ⟨_, rfl, a, xs, rfl, hrow2, fun J GG wk hG => for_it wk (fun i σ H' => (∃ v3 v4, σ = [some (.ref g), some (.ref a), some (.ref q), v3, v4]) ∧ Same H1 H' ∧ ∃ L, H' q = some (SetN P w q L) ∧ (∀ p ∈ L, PpH H' p.1 p.2) ∧ L.length ≤ i ∧ ∃ seen, (∀ k, k ∈ seen ↔ k ∈ L.map (·.2)) ∧ badFrom ns (es.map (·.2)) [] 0 ds = badFrom ns (es.map (·.2)) seen i (ds.drop i))
      ⟨⟨_, _, rfl⟩, s12, [], e2, (fun _ z => nomatch z), Nat.le_refl _, [], (fun k => Iff.rfl), rfl⟩ (fun i σ H' _ ⟨_, s, _⟩ => hG _ ((hrow1.eq s).trans (hrow1.eq s12).symm)) ?_ ?_⟩
    · rintro i y σ Ha Hb hi ⟨⟨v3, v4, rfl⟩, sA, L, eL, kL, lL, seen, sm, bd⟩ ⟨tt, x1, x2, rfl, ht, rfl, e1, e3⟩
      obtain rfl : V.int (i : Nat) = x1 := Option.some.inj e1
      have e3 : xs[i]? = some x2 := e3
      obtain ⟨dy, hdy, oy⟩ := odAt al e3
      have sT : Same Ha (L2.upd Ha tt (.tup [.int (i : Nat), x2])) := Same.new ht
      have eT : (L2.upd Ha tt (.tup [.int (i : Nat), x2])) tt = some (.tup [.int (i : Nat), x2]) := upd_same
      generalize L2.upd Ha tt (.tup [.int (i : Nat), x2]) = Hb at sT eT ⊢
      have sH := s1.trans (sA.trans sT)
      refine ⟨tt, _, rfl, SqT.of eT, rfl, _, _, rfl, _, _, rfl, rfl, ?_⟩
      refine ⟨_, rfl, _, rfl, g, ns, es, x2, dy, rfl, G.same sH, oy.same sH, _, rfl, ?_⟩
      have st := bad_step hdy bd
      cases c : prB ns (es.map (·.2)) dy with
      | false =>
        rw [c] at st
        exact iteT (iteT ⟨_, rfl, by show 1 ≤ 1000; decide, fun a' ha => leave sH (by rw [er, st]; rfl) ha⟩)
      | true =>
        rw [c] at st
        obtain ⟨b, rfl, pb⟩ := pr_str (oy.same sH) c
        have kL' : ∀ p ∈ L, PpH Hb p.1 p.2 := fun p hp => (kL p hp).same sT
        have eL' := sT _ _ eL
        refine iteF ⟨_, rfl, _, rfl, b, q, ppOf dy, L, rfl, rfl, eL', kL', pb, _, rfl, ?_⟩
        cases cm : decide (ppOf dy ∈ L.map (·.2)) with
        | true =>
          have : decide (ppOf dy ∈ seen) = true := decide_eq_true ((sm _).mpr (of_decide_eq_true cm))
          rw [this] at st
          exact iteT ⟨_, rfl, by show 1 ≤ 1000; decide, fun a' ha => leave sH (by rw [er, st]; rfl) ha⟩
        | false =>
          have nm : ppOf dy ∉ L.map (·.2) := of_decide_eq_false cm
          have : decide (ppOf dy ∈ seen) = false := decide_eq_false fun z => nm ((sm _).mp z)
          rw [this] at st
          refine iteF ⟨_, rfl, ⟨q, L, rfl, eL'⟩, _, rfl, q, b, ppOf dy, L, rfl, rfl, eL', kL', pb, by omega, fun L' c1 c2 => ?_⟩
          have pm := c2 nm
          refine ⟨⟨_, _, rfl⟩, Same.grow hq (sA.trans sT), L', upd_same, fun p hp => ?_, by rw [pm.length_eq, List.length_cons]; omega, ppOf dy :: seen, fun k => ?_, by rw [st]; rfl⟩
          · rcases List.mem_cons.mp (pm.mem_iff.mp hp) with rfl | hp
            · exact pb.upd eL' no_tup
            · exact (kL' p hp).upd eL' no_tup
          · rw [(pm.map (·.2)).mem_iff, List.map_cons, List.mem_cons, List.mem_cons, sm]
    · rintro σ Ha ⟨⟨v3, v4, rfl⟩, sA, L, eL, kL, lL, seen, sm, bd⟩
      refine kQ ?_ Ha (s1.trans sA)
      rw [er, bd, List.drop_of_length_le (by omega)]; rfl
end
end CP
/-! records as values -/
namespace CP
open PySem PySem.Spec PyProof.Rows L2
/-! ### pairs as values -/
theorem upTo_succ (r : Nat → List (E2 × E2)) : ∀ n, upTo r (n + 1) = r 0 ++ upTo (fun i => r (i + 1)) n
  | 0 => by simp [upTo]
  | n + 1 => by
    show upTo r (n + 1) ++ r (n + 1) = _
    rw [upTo_succ r n, List.append_assoc]; rfl
theorem pairsOf_cons (e : E2) (es : List E2) : pairsOf (e :: es) = ((es.filter (apB e)).map fun f => (e, f)) ++ pairsOf es := by
  unfold pairsOf
  rw [List.length_cons, upTo_succ]
  congr 1
theorem pairs_mem : ∀ {es : List E2} {p : E2 × E2}, p ∈ pairsOf es → p.1 ∈ es ∧ p.2 ∈ es ∧ apB p.1 p.2 = true
  | [], p, h => nomatch h
  | e :: es, p, h => by
    rw [pairsOf_cons] at h
    rcases List.mem_append.mp h with h | h
    · obtain ⟨f, hf, rfl⟩ := List.mem_map.mp h
      obtain ⟨a, b⟩ := List.mem_filter.mp hf
      exact ⟨List.mem_cons_self, List.mem_cons_of_mem _ a, b⟩
    · obtain ⟨a, b, c⟩ := pairs_mem h
      exact ⟨List.mem_cons_of_mem _ a, List.mem_cons_of_mem _ b, c⟩
abbrev AscE (es : List E2) : Prop := es.Pairwise (fun e f => ltE e f = true)
theorem pairs_lt : ∀ {es : List E2} {p : E2 × E2}, AscE es → p ∈ pairsOf es → ltE p.1 p.2 = true
  | [], p, _, h => nomatch h
  | e :: es, p, hs, h => by
    obtain ⟨h1, h2⟩ := List.pairwise_cons.mp hs
    rw [pairsOf_cons] at h
    rcases List.mem_append.mp h with h | h
    · obtain ⟨f, hf, rfl⟩ := List.mem_map.mp h
      exact h1 f (List.mem_filter.mp hf).1
    · exact pairs_lt h2 h
theorem pairs_has : ∀ {es : List E2} {e f : E2}, AscE es → e ∈ es → f ∈ es → ltE e f = true → apB e f = true → (e, f) ∈ pairsOf es
  | [], e, f, _, h, _, _, _ => nomatch h
  | x :: es, e, f, hs, he, hf, lt, ap => by
    obtain ⟨h1, h2⟩ := List.pairwise_cons.mp hs
    rw [pairsOf_cons]
    rcases List.mem_cons.mp he with ex | he'
    · rcases List.mem_cons.mp hf with fx | hf'
      · rw [ex, fx, ltE_irrefl] at lt; cases lt
      · rw [ex] at ap ⊢
        exact List.mem_append_left _ (List.mem_map.mpr ⟨f, List.mem_filter.mpr ⟨hf', ap⟩, rfl⟩)
    · rcases List.mem_cons.mp hf with fx | hf'
      · rw [fx, ltE_asymm (h1 e he')] at lt; cases lt
      · exact List.mem_append_right _ (pairs_has h2 he' hf' lt ap)
theorem pairs_asc : ∀ {es : List E2}, AscE es → (pairsOf es).Pairwise (fun p q => ltP p q = true)
  | [], _ => .nil
  | e :: es, hs => by
    obtain ⟨h1, h2⟩ := List.pairwise_cons.mp hs
    rw [pairsOf_cons]
    refine List.pairwise_append.mpr ⟨?_, pairs_asc h2, fun p hp q hq => ?_⟩
    · rw [List.pairwise_map]
      refine List.Pairwise.imp_of_mem (fun {a b} _ _ h => ?_) (h2.filter (apB e))
      unfold ltP
      rw [if_pos rfl]
      by_cases c : a = b
      · rw [c, ltE_irrefl] at h; cases h
      · rw [if_neg c]; exact h
    · obtain ⟨f, hf, rfl⟩ := List.mem_map.mp hp
      have m := (pairs_mem hq).1
      have lt := h1 _ m
      unfold ltP
      rw [if_neg (fun z : e = q.1 => by rw [← z, ltE_irrefl] at lt; cases lt)]
      exact lt
theorem ltP_irrefl (p : E2 × E2) : ltP p p = false := by simp [ltP]
theorem asc_nd {l : List (E2 × E2)} (h : l.Pairwise (fun p q => ltP p q = true)) : l.Nodup := h.imp fun {a b} lt e => by rw [e, ltP_irrefl] at lt; cases lt
theorem pr_has {ns : List Str} {es : List E2} {d : PyData} (hs : AscE es) (h : prB ns es d = true) : ppOf d ∈ pairsOf es := by
  unfold prB at h; split at h
  · rename_i a b
    simp only [Bool.and_eq_true] at h
    have mem : ∀ {x : PyData}, edB ns es x = true → edOf x ∈ es := fun {x} hx => by
      unfold edB at hx; split at hx
      · simp only [Bool.and_eq_true] at hx
        exact of_decide_eq_true hx.2
      · cases hx
    exact pairs_has hs (mem h.1) (mem h.2.1) h.2.2.1 h.2.2.2
  · cases h
/-! ### what is held -/
def itemsD (d : PyData) : List PyData := (itD d).getD []
theorem PrAt.pp {H : Hp} {q : Pr} (h : PrAt H q) : PpH H q.1 (prV q) := ⟨_, _, h.ob, h.one, h.two⟩
theorem bad_all {ns : List Str} {es : List E2} : ∀ {ds : List PyData} {seen : List (E2 × E2)} {i : Nat}, badFrom ns es seen i ds = none → (∀ d ∈ ds, prB ns es d = true) ∧ (ds.map ppOf).Nodup ∧ ∀ d ∈ ds, ppOf d ∉ seen
  | [], _, _, _ => ⟨(fun _ z => nomatch z), List.nodup_nil, fun _ z => nomatch z⟩
  | d :: ds, seen, i, h => by
    unfold badFrom at h
    split at h
    · rename_i c
      simp only [Bool.and_eq_true, Bool.not_eq_true', decide_eq_false_iff_not] at c
      obtain ⟨a, b, e⟩ := bad_all h
      refine ⟨fun x hx => ?_, ?_, fun x hx => ?_⟩
      · rcases List.mem_cons.mp hx with rfl | hx
        · exact c.1
        · exact a x hx
      · rw [List.map_cons, List.nodup_cons]
        refine ⟨fun z => ?_, b⟩
        obtain ⟨y, hy, ey⟩ := List.mem_map.mp z
        exact e y hy (by rw [ey]; exact List.mem_cons_self)
      · rcases List.mem_cons.mp hx with rfl | hx
        · exact c.2
        · exact fun z => e x hx (List.mem_cons_of_mem _ z)
    · cases h
theorem rec_row {ns : List Str} {es : List E2} {H : Hp} {x : V} {d : PyData} (o : Od H x d) (h : recBad ns es d = none) : ∃ a xs, x = .ref a ∧ RowAt H a xs ∧ OdAll H xs (itemsD d) ∧ (∀ e ∈ itemsD d, prB ns es e = true) ∧ ((itemsD d).map ppOf).Nodup := by
  rcases od_cases o with ⟨r, it⟩ | ⟨a, xs, ds, rfl, hrow, al, r, it⟩
  · unfold recBad at h; rw [it] at h; cases h
  · unfold recBad at h; rw [it] at h
    have h' : badFrom ns es [] 0 ds = none := by
      cases q : badFrom ns es [] 0 ds with
      | none => rfl
      | some i => dsimp only at h; rw [q] at h; cases h
    obtain ⟨b1, b2, _⟩ := bad_all h'
    have e : itemsD d = ds := by unfold itemsD; rw [it]; rfl
    rw [e]
    exact ⟨a, xs, rfl, hrow, al, b1, b2⟩
end CP
/-! check_edges at any value -/
namespace CP
open PySem PySem.Spec PyProof.Rows L2
abbrev sCheckE : Stmt := top 24
def ek (e : E2) : List Str := [e.1, e.2]
theorem ek_inj {e f : E2} (h : ek e = ek f) : e = f := by
  simp only [ek, List.cons.injEq, and_true] at h
  exact Prod.ext h.1 h.2
/-- the first item that is no edge or stood before -/
def badE (ns : List Str) (es : List E2) : List E2 → List PyData → Option PyData
  | _, [] => none
  | seen, d :: ds => if (edB ns es d && !decide (edOf d ∈ seen)) = true then badE ns es (edOf d :: seen) ds else some d
def edsBad (ns : List Str) (es : List E2) (d : PyData) : Option PyData := match itD d with
  | none => some .none
  | some ds => badE ns es [] ds
/-- what is said when NoEdge of a value worth b leaves -/
abbrev RaisesE (H : Hp) (E : XK) (C : Addr) (b : PyData) : Prop := ∀ v dd H', Od H' v b → H dd = none → H' dd = some (.xd [("edge", v)]) → Same H H' → E (.ref C) (some dd) H'
def spCheckE (C Ce : Addr) : Sp := fun vs H Q E => ∃ (g : Addr) (ns : List Str) (es : List Ed) (x : V) (d : PyData), vs = [.ref g, x] ∧ GrAt C H g ns es ∧ Od H x d ∧ (∀ ds, itD d = some ds → ds.length < 200) ∧
  (∀ b, edsBad ns (es.map (·.2)) d = some b → RaisesE H E Ce b) ∧ (edsBad ns (es.map (·.2)) d = none → ∀ H', Same H H' → Q .non H')
theorem badE_step {ns : List Str} {es : List E2} {ds : List PyData} {i : Nat} {d : PyData} (h : ds[i]? = some d) {seen : List E2} (base : badE ns es [] ds = badE ns es seen (ds.drop i)) :
    badE ns es [] ds = if (edB ns es d && !decide (edOf d ∈ seen)) = true then badE ns es (edOf d :: seen) (ds.drop (i + 1)) else some d := by
  rw [base]
  have e : ds.drop i = d :: ds.drop (i + 1) := by
    obtain ⟨hl, rfl⟩ := List.getElem?_eq_some_iff.mp h
    exact List.drop_eq_getElem_cons hl
  rw [e]; rfl
section
variable {P : Program} {w : World} {K : PySem.W.Frag} {mg : Str → Option Value} {base : Heap}
theorem scCheckE : FnScope ["graph", "value", "seen", "edge"] ["graph", "value"] (defScope sCheckE) := ⟨rfl, rfl, rfl, by decide +kernel, rfl, by decide +kernel, by decide +kernel⟩
theorem ok_checkE {f fR fE fI C Ce : Addr} {fd fdR fdE fdI : FuncData} (F : Fun K "check_edges" "check_edges" sCheckE f fd) (mset : mg "set" = none)
    (mR : mg "is_row" = some (.ref fR)) (FR : FnOk P w K mg base CX0 1 fR fdR ["value"] spRowG) (kR : PySem.W.keepIn K (.ref fR) = true) (bR : Binds K fdR ["value"] [])
    (mE : mg "is_edge" = some (.ref fE)) (FE : FnOk P w K mg base CX0 3 fE fdE ["graph", "value"] (spIsEdge C)) (kE : PySem.W.keepIn K (.ref fE) = true) (bE : Binds K fdE ["graph", "value"] [])
    (mN : mg "NoEdge" = some (.ref Ce)) (TN : OexC K Ce) (iN : PySem.W.findIn K (.ref Ce) "__init__" = some (some (.ref fI))) (tN : PySem.W.typeIn K (.ref fI) = some (.type "function")) (GI : FnOk P w K mg base CX0 1 fI fdI ["self", "edge"] (spXI Ce "edge")) (bI : Binds K fdI ["self", "edge"] []) :
    FnOk P w K mg base (L2.CX P w) 4 f fd ["graph", "value"] (spCheckE C Ce) := by
  refine F.okX scCheckE (fun vs H Q E h => ?_) (fun cdv A outer s H vs Q E hr h => ?_)
  · obtain ⟨g, ns, es, x, d, rfl, _⟩ := h; rfl
  · obtain ⟨g, ns, es, x, d, rfl, G, o, len, kEr, kQ⟩ := h
    have hr1 : Room 1 _ := hr.mono (by decide)
    have hr2 : Room 2 _ := hr.mono (by decide)
    refine ⟨_, pss_cons (ps_if (pt_not (pt_val (pe_call FR hr1 rfl mR kR bR .nil pass0 (pa_cons (pv 1) pa_nil)))) (pss_one (ps_raise rfl (takes_of rfl rfl rfl rfl) (pmk_oex TN iN tN GI hr2 bI .nil pass0 rfl mN (pa_cons pe_non pa_nil)))) pss_nil)
      (pss_cons (ps_set (i := 2) scCheckE.nd rfl (Or.inl rfl) (pe_callTy0 (cr_set0E P w rfl rfl) (by rfl) mset (by decide +kernel)))
      (pss_one (ps_for (passes_of rfl) rfl (pi_seq (pv 1)) (pg_name (i := 3) scCheckE.nd rfl (Or.inl rfl))
        (pss_cons (ps_if (PW.pt (pw_or (pt_not (pt_val (pe_call FE hr rfl mE kE bE .nil pass0 (pa_cons (pv 0) (pa_cons (pv 3) pa_nil))))) (pw_or1 (pt_cmpR (or_sinE P w rfl rfl hr.units) (pv 3) (pv 2) rfl))))
            (pss_one (ps_raise rfl (takes_of rfl rfl rfl rfl) (pmk_oex TN iN tN GI hr2 bI .nil pass0 rfl mN (pa_cons (pv 3) pa_nil)))) pss_nil)
        (pss_one (ps_expr (pe_saddE P w rfl rfl hr.units (pv 2) (pa_cons (pv 3) pa_nil)))))))), ?_⟩
    refine ⟨_, rfl, x, d, rfl, o, fun H1 s1 => ⟨_, rfl, ?_⟩⟩
    have leave : ∀ {Hx : Hp} {b : PyData} {v : V} {a' : Addr}, Same H Hx → edsBad ns (es.map (·.2)) d = some b → Od H v b → Hx a' = none → spXI Ce "edge" [.ref a', v] (L2.upd Hx a' (exo a' Ce none)) (fun v H2 => v = .non ∧ ∃ (d : Addr) (fs : List (Str × V)), H2 a' = some (exo a' Ce (some d)) ∧ H2 d = some (exd d fs) ∧ Hx d = none ∧ E (.ref Ce) (some d) (L2.upd (del H2 a') d (.xd fs))) E0 := fun sx ei ov ha => mk_raise (R := fun c dd H' => E c dd H') ha fun dd H' h1 h2 h3 => kEr _ ei _ dd H' (ov.same (sx.trans h3)) (sx.free h1) h2 (sx.trans h3)
    rcases od_cases o with ⟨r, it⟩ | ⟨a, xs, ds, rfl, hrow, al, r, it⟩
    · rw [r]
      exact iteT ⟨by show 1 ≤ 1000; decide, fun a' ha => leave s1 (by unfold edsBad; rw [it]) .non ha⟩
    rw [r]
    have er : edsBad ns (es.map (·.2)) d = badE ns (es.map (·.2)) [] ds := by unfold edsBad; rw [it]
    have few := len ds it
    have hl := odLen al
    refine iteF ⟨rfl, fun q hq => ?_⟩
    have hrow1 := hrow.same s1
    have s12 : Same H1 (L2.upd H1 q (SetNE P w q [])) := Same.new hq
    have e2 : (L2.upd H1 q (SetNE P w q [])) q = some (SetNE P w q []) := upd_same
    generalize L2.upd H1 q (SetNE P w q []) = H2 at s12 e2 ⊢
    have hrow2 := hrow1.same s12
    refine ⟨_, rfl, a, xs, rfl, hrow2, fun J GG wk hG => for_it wk (fun i σ H' => (∃ v3, σ = [some (.ref g), some (.ref a), some (.ref q), v3]) ∧ Same H1 H' ∧ ∃ L, H' q = some (SetNE P w q L) ∧ (∀ p ∈ L, TkH H' p.1 p.2) ∧ L.length ≤ i ∧ ∃ seen : List E2, (∀ k, k ∈ seen ↔ ek k ∈ L.map (·.2)) ∧ badE ns (es.map (·.2)) [] ds = badE ns (es.map (·.2)) seen (ds.drop i))
      ⟨⟨_, rfl⟩, s12, [], e2, (fun _ z => nomatch z), Nat.le_refl _, [], (fun k => by simp), rfl⟩ (fun i σ H' _ ⟨_, s, _⟩ => hG _ ((hrow1.eq s).trans (hrow1.eq s12).symm)) ?_ ?_⟩
    · rintro i y σ Ha Hb hi ⟨⟨v3, rfl⟩, sA, L, eL, kL, lL, seen, sm, bd⟩ ⟨rfl, hy⟩
      obtain ⟨dy, hdy, oy⟩ := odAt al hy
      have sH := s1.trans sA
      refine ⟨_, rfl, _, rfl, g, ns, es, y, dy, rfl, G.same sH, oy.same sH, _, rfl, ?_⟩
      have st := badE_step hdy bd
      cases c : edB ns (es.map (·.2)) dy with
      | false =>
        rw [c] at st
        exact iteT (iteT ⟨_, rfl, by show 1 ≤ 1000; decide, fun a' ha => leave sH (by rw [er, st]; rfl) oy ha⟩)
      | true =>
        rw [c] at st
        obtain ⟨b, u, v, rfl, hb, rfl, _⟩ := ed_str oy c
        have pb : TkH Hb b (ek (u, v)) := sH _ _ hb
        refine iteF ⟨_, rfl, _, rfl, b, q, ek (u, v), L, rfl, rfl, eL, kL, pb, _, rfl, ?_⟩
        cases cm : decide (ek (u, v) ∈ L.map (·.2)) with
        | true =>
          have : decide (edOf (.tuple [.str u, .str v]) ∈ seen) = true := decide_eq_true ((sm (u, v)).mpr (of_decide_eq_true cm))
          rw [this] at st
          exact iteT ⟨_, rfl, by show 1 ≤ 1000; decide, fun a' ha => leave sH (by rw [er, st]; rfl) oy ha⟩
        | false =>
          have nm : ek (u, v) ∉ L.map (·.2) := of_decide_eq_false cm
          have : decide (edOf (.tuple [.str u, .str v]) ∈ seen) = false := decide_eq_false fun z => nm ((sm (u, v)).mp z)
          rw [this] at st
          refine iteF ⟨_, rfl, ⟨q, L, rfl, eL⟩, _, rfl, q, b, ek (u, v), L, rfl, rfl, eL, kL, pb, by omega, fun L' c1 c2 => ?_⟩
          have pm := c2 nm
          refine ⟨⟨_, rfl⟩, Same.grow hq sA, L', upd_same, fun p hp => ?_, by rw [pm.length_eq, List.length_cons]; omega, (u, v) :: seen, fun k => ?_, by rw [st]; rfl⟩
          · rcases List.mem_cons.mp (pm.mem_iff.mp hp) with rfl | hp
            · exact pb.upd eL no_tup
            · exact (kL p hp).upd eL no_tup
          · rw [(pm.map (·.2)).mem_iff, List.map_cons, List.mem_cons, List.mem_cons, sm]
            exact ⟨fun z => z.imp (fun e => by rw [e]) id, fun z => z.imp (fun e => ek_inj e) id⟩
    · rintro σ Ha ⟨⟨v3, rfl⟩, sA, L, eL, kL, lL, seen, sm, bd⟩
      refine kQ ?_ Ha (s1.trans sA)
      rw [er, bd, List.drop_of_length_le (by omega)]; rfl
end
end CP
/-! restricted -/
namespace CP
open PySem PySem.Spec PyProof.Rows L2
abbrev sRestr : Stmt := top 25
theorem units65 {n : Nat} {A : Around} (hr : Room n A) : A.units + 65 < cLine := by have := hr.un; omega
theorem eds_shapedL {es : List E2} (h : ∀ e ∈ es, OkE e) : SeqAt.shaped (.list (es.map encE)) = true := by
  have c1 : (PyData.list (es.map encE)).canLay0 = true := by simp [PyData.canLay0, eds_lay h]
  have c2 : (PyData.list (es.map encE)).depth = PyData.depthAll (es.map encE) + 1 := by first | rfl | simp [PyData.depth, Nat.add_comm]
  have := eds_depth es
  unfold SeqAt.shaped; rw [c1, c2]; simp; omega
theorem encE_shaped {e : E2} (h : OkE e) : SeqAt.shaped (encE e) = true := by
  unfold SeqAt.shaped; rw [encE_lay h, encE_depth]; rfl
/-- e in a list or a tuple of edges -/
def rInER : R2 := fun x y H Q => ∃ (p : Ed) (t : Addr) (es : List Ed), x = .ref p.1 ∧ y = .ref t ∧ EdAt H p ∧ RowAt H t (es.map fun q => V.ref q.1) ∧ (∀ q ∈ es, EdAt H q) ∧ OkE p.2 ∧ (∀ q ∈ es, OkE q.2) ∧ Q (.bl (decide (p.2 ∈ es.map (·.2)))) H
theorem op_inER {X : Cx} (hu : X.A.units + 65 < cLine) : OpR X (compareOp .In) rInER := by
  intro pins s σ H x y v u Q I rx ry h
  obtain ⟨p, t, es, rfl, rfl, hp, ht, he, o1, o2, k⟩ := h
  rcases ht with ht | ht
  · refine op_inD hu pins s σ H _ _ v u Q I rx ry ⟨encE p.2, (es.map (·.2)).map encE, dp_edge hp, ?_, encE_shaped o1, eds_shapedL (fun e h => by obtain ⟨q, hq, rfl⟩ := List.mem_map.mp h; exact o2 q hq), ?_⟩
    · rw [List.map_map]; exact .lst (SqL.of ht) (dp_edges he)
    · have := any_es p.2 es
      rw [List.map_map]
      show Q (.bl ((es.map fun q => encE q.2).any fun z => PyData.eqv z (encE p.2))) H
      rw [this]; exact k
  · exact op_inE (by omega) pins s σ H _ _ v u Q I rx ry ⟨p.1, p.2.1, p.2.2, t, es, rfl, rfl, hp, ht, he, k⟩
/-- a row of data that are edges -/
theorem eds_of {ns : List Str} {es : List E2} {H : Hp} : ∀ {xs : List V} {ds : List PyData}, OdAll H xs ds → (∀ d ∈ ds, edB ns es d = true) → ∃ ks : List Ed, xs = ks.map (fun p => V.ref p.1) ∧ (∀ p ∈ ks, EdAt H p) ∧ ks.map (·.2) = ds.map edOf
  | _, _, .nil, _ => ⟨[], rfl, (fun _ z => nomatch z), rfl⟩
  | _, _, .cons o al, h => by
    obtain ⟨ks, e1, e2, e3⟩ := eds_of al fun d hd => h d (List.mem_cons_of_mem _ hd)
    obtain ⟨p, u, v, rfl, hp, rfl, _⟩ := ed_str o (h _ List.mem_cons_self)
    refine ⟨(p, u, v) :: ks, by rw [e1]; rfl, fun q hq => ?_, by rw [List.map_cons, List.map_cons, e3]; rfl⟩
    rcases List.mem_cons.mp hq with rfl | hq
    · exact hp
    · exact e2 q hq
theorem badE_all {ns : List Str} {es : List E2} : ∀ {ds : List PyData} {seen : List E2}, badE ns es seen ds = none → (∀ d ∈ ds, edB ns es d = true) ∧ (ds.map edOf).Nodup ∧ ∀ d ∈ ds, edOf d ∉ seen
  | [], _, _ => ⟨(fun _ z => nomatch z), List.nodup_nil, fun _ z => nomatch z⟩
  | d :: ds, seen, h => by
    unfold badE at h
    split at h
    · rename_i c
      simp only [Bool.and_eq_true, Bool.not_eq_true', decide_eq_false_iff_not] at c
      obtain ⟨a, b, e⟩ := badE_all h
      refine ⟨fun x hx => ?_, ?_, fun x hx => ?_⟩
      · rcases List.mem_cons.mp hx with rfl | hx
        · exact c.1
        · exact a x hx
      · rw [List.map_cons, List.nodup_cons]
        refine ⟨fun z => ?_, b⟩
        obtain ⟨y, hy, ey⟩ := List.mem_map.mp z
        exact e y hy (by rw [ey]; exact List.mem_cons_self)
      · rcases List.mem_cons.mp hx with rfl | hx
        · exact c.2
        · exact fun z => e x hx (List.mem_cons_of_mem _ z)
    · cases h
theorem edB_in {ns : List Str} {es : List E2} {d : PyData} (h : edB ns es d = true) : edOf d ∈ es := by
  unfold edB at h; split at h
  · simp only [Bool.and_eq_true] at h
    exact of_decide_eq_true h.2
  · cases h
theorem eds_row {ns : List Str} {es : List E2} {H : Hp} {x : V} {d : PyData} (o : Od H x d) (h : edsBad ns es d = none) : ∃ (a : Addr) (ks : List Ed), x = .ref a ∧ RowAt H a (ks.map fun p => V.ref p.1) ∧ (∀ p ∈ ks, EdAt H p) ∧ ks.map (·.2) = (itemsD d).map edOf ∧ (ks.map (·.2)).Nodup ∧ ∀ e ∈ ks.map (·.2), e ∈ es := by
  rcases od_cases o with ⟨r, it⟩ | ⟨a, xs, ds, rfl, hrow, al, r, it⟩
  · unfold edsBad at h; rw [it] at h; cases h
  · unfold edsBad at h; rw [it] at h
    obtain ⟨b1, b2, _⟩ := badE_all h
    have e : itemsD d = ds := by unfold itemsD; rw [it]; rfl
    obtain ⟨ks, rfl, k2, k3⟩ := eds_of al b1
    refine ⟨a, ks, rfl, hrow, k2, by rw [e]; exact k3, by rw [k3]; exact b2, fun f hf => ?_⟩
    rw [k3] at hf
    obtain ⟨y, hy, rfl⟩ := List.mem_map.mp hf
    exact edB_in (b1 y hy)
/-- a row of data that are pairs -/
theorem prs_of {ns : List Str} {es : List E2} {H : Hp} : ∀ {xs : List V} {ds : List PyData}, OdAll H xs ds → (∀ d ∈ ds, prB ns es d = true) → ∃ qs : List Pr, xs = qs.map (fun p => V.ref p.1) ∧ (∀ q ∈ qs, PrAt H q) ∧ qs.map prV = ds.map ppOf
  | _, _, .nil, _ => ⟨[], rfl, (fun _ z => nomatch z), rfl⟩
  | _, _, .cons o al, h => by
    obtain ⟨qs, e1, e2, e3⟩ := prs_of al fun d hd => h d (List.mem_cons_of_mem _ hd)
    obtain ⟨b, rfl, p, q, hb, hp, hq⟩ := pr_str o (h _ List.mem_cons_self)
    refine ⟨(b, ((p, (ppOf _).1), (q, (ppOf _).2))) :: qs, by rw [e1]; rfl, fun r hr => ?_, by rw [List.map_cons, List.map_cons, e3]; rfl⟩
    rcases List.mem_cons.mp hr with rfl | hr
    · exact ⟨hb, hp, hq⟩
    · exact e2 r hr
/-- both edges of the pair are among these -/
def inB (es : List E2) (q : Pr) : Bool := decide (q.2.1.2 ∈ es) && decide (q.2.2.2 ∈ es)
/-- a graph's own facts -/
structure GOk (ns : List Str) (es : List E2) : Prop where
  n0 : 0 < ns.length
  n8 : ns.length ≤ 8
  nd : ns.Nodup
  nm : ∀ z ∈ ns, NameOk z
  eo : ∀ e ∈ es, EdOk ns e
  el : es.length ≤ 18
  asc : AscE es
theorem GOk.okE {ns : List Str} {es : List E2} (g : GOk ns es) {e : E2} (h : e ∈ es) : OkE e := ⟨(g.nm _ (g.eo e h).1).strOk, (g.nm _ (g.eo e h).2.1).strOk⟩
def spRestr (C Cr Ce : Addr) : Sp := fun vs H Q E => ∃ (g : Addr) (ns : List Str) (es : List Ed) (x y : V) (d d2 : PyData), vs = [.ref g, x, y] ∧ GrAt C H g ns es ∧ GOk ns (es.map (·.2)) ∧ Od H x d ∧ Od H y d2 ∧ (∀ ds, itD d = some ds → ds.length < 200) ∧ (∀ ds, itD d2 = some ds → ds.length < 200) ∧
  (∀ i, recBad ns (es.map (·.2)) d = some i → RaisesAt H E Cr i) ∧ (recBad ns (es.map (·.2)) d = none → ∀ b, edsBad ns (es.map (·.2)) d2 = some b → RaisesE H E Ce b) ∧
  (recBad ns (es.map (·.2)) d = none → edsBad ns (es.map (·.2)) d2 = none → ∀ t g' l ks ps H', H' t = some (.tup [.ref g', .ref l]) → GrAt C H' g' ns (sortE ks) → ks.map (·.2) = (itemsD d2).map edOf → H l = none → PrsAt H' l ps → ps.Pairwise (fun p q => ltP p q = true) →
    (∀ k, k ∈ ps ↔ k ∈ (itemsD d).map ppOf ∧ k.1 ∈ (itemsD d2).map edOf ∧ k.2 ∈ (itemsD d2).map edOf) → Same H H' → Q (.ref t) H')
theorem nodup_len {α : Type} [DecidableEq α] : ∀ {l m : List α}, l.Nodup → (∀ x ∈ l, x ∈ m) → l.length ≤ m.length
  | [], _, _, _ => Nat.zero_le _
  | x :: l, m, nd, sub => by
    obtain ⟨n1, n2⟩ := List.nodup_cons.mp nd
    have hx := sub x List.mem_cons_self
    have ih := nodup_len (m := m.erase x) n2 fun y hy => (List.mem_erase_of_ne (fun e : y = x => n1 (e ▸ hy))).mpr (sub y (List.mem_cons_of_mem _ hy))
    have := (List.perm_cons_erase hx).length_eq
    simp only [List.length_cons] at this ⊢
    omega
theorem Same.made {H H' : Hp} {g dx : Addr} {o1 o2 : HO} (hg : H g = none) (hdx : H dx = none) (h : ∀ c o, (L2.upd (L2.upd H dx o1) g o2) c = some o → c ≠ g → H' c = some o) : Same H H' := fun c o e => by
  have n1 := ne_of_none e hg
  exact h c o (by rw [upd_ne n1, upd_ne (ne_of_none e hdx)]; exact e) n1
section
variable {P : Program} {w : World} {K : PySem.W.Frag} {mg : Str → Option Value} {base : Heap}
abbrev nRestr : List Str := ["graph", "record", "edges", "kept", "one", "other"]
theorem scRestr : FnScope nRestr ["graph", "record", "edges"] (defScope sRestr) := ⟨rfl, rfl, rfl, by decide +kernel, rfl, by decide +kernel, by decide +kernel⟩
theorem ok_restr {f fR fE fI C Cr Ce : Addr} {fd fdR fdE fdI : FuncData} (F : Fun K "restricted" "restricted" sRestr f fd) (T : GTxt K mg C) (ms : mg "sorted" = none)
    (mR : mg "check_record" = some (.ref fR)) (FR : FnOk P w K mg base (L2.CX P w) 5 fR fdR ["graph", "value"] (spCheckR C Cr)) (kR : PySem.W.keepIn K (.ref fR) = true) (bR : Binds K fdR ["graph", "value"] [])
    (mE : mg "check_edges" = some (.ref fE)) (FE : FnOk P w K mg base (L2.CX P w) 4 fE fdE ["graph", "value"] (spCheckE C Ce)) (kE : PySem.W.keepIn K (.ref fE) = true) (bE : Binds K fdE ["graph", "value"] [])
    (MI : Mk K C fI) (GI : FnOk P w K mg base CX0 4 fI fdI ["self", "vertices", "edges"] (spInit C)) (bI : Binds K fdI ["self", "vertices", "edges"] []) :
    FnOk P w K mg base (L2.CX P w) 6 f fd ["graph", "record", "edges"] (spRestr C Cr Ce) := by
  refine F.okX scRestr (fun vs H Q E h => ?_) (fun cdv A outer s H vs Q E hr h => ?_)
  · obtain ⟨g, ns, es, x, y, d, d2, rfl, _⟩ := h; rfl
  · obtain ⟨g, ns, es, x, y, d, d2, rfl, G, ok, o, o2, len, len2, kE1, kE2, kQ⟩ := h
    have hr4 : Room 4 _ := hr.mono (by decide)
    have hu65 := units65 hr
    refine ⟨_, pss_cons (ps_expr (pe_call FR hr rfl mR kR bR .nil (passes_call (E := E) (takes_of rfl rfl rfl rfl) fun _ _ _ _ h => h) (pa_cons (pv 0) (pa_cons (pv 1) pa_nil))))
      (pss_cons (ps_expr (pe_call FE hr4 rfl mE kE bE .nil (passes_call (E := E) (takes_of rfl rfl rfl rfl) fun _ _ _ _ h => h) (pa_cons (pv 0) (pa_cons (pv 2) pa_nil))))
      (pss_cons (ps_setLc (i := 3) (own := [("one", 4), ("other", 5)]) (g := gTup K 2 (gCons (gName 4) (gCons (gName 5) gNil))) rfl scRestr.nd rfl rfl (sw_true rfl rfl rfl (by decide +kernel)) (pi_seq (pv 1))
          (blkOk_by (own := [("one", 4), ("other", 5)]) (N := nRestr) (sc := defScope sRestr) (by decide +kernel))
          (fun _ _ _ _ _ => pg_tup rfl (pgs_cons (pg_name (i := 4) scRestr.nd rfl (Or.inl rfl)) (pgs_cons (pg_name (i := 5) scRestr.nd rfl (Or.inl rfl)) pgs_nil)))
          (fun _ _ _ _ _ => pts_one (PW.pt (pw_and (pt_cmpR (op_inER hu65) (pv 4) (pv 2) rfl) (pw_and1 (pt_cmpR (op_inER hu65) (pv 5) (pv 2) rfl))))) (fun _ _ _ _ _ => pe_tup (pa_cons (pv 4) (pa_cons (pv 5) pa_nil))))
      (pss_one (ps_ret (pe_tup (pa_cons (pe_make MI GI hr rfl T.mg bI .nil pass0 (pa_cons (pe_fld (pv 0) rfl) (pa_cons (pv 2) pa_nil))) (pa_cons (pe_callB (cr_sortP hr.units) (by rfl) ms (by decide +kernel) (pa_cons (pv 3) pa_nil)) pa_nil))))))), ?_⟩
    refine ⟨_, rfl, _, rfl, g, ns, es, x, d, rfl, G, o, len, kE1, fun nb H1 s1 => ?_⟩
    refine ⟨_, rfl, _, rfl, g, ns, es, y, d2, rfl, G.same s1, o2.same s1, len2, fun b hb v dd H' ov h1 h2 h3 => ?_, fun nc H2 s2 => ?_⟩
    · exact kE2 nb b hb v dd H' ov (s1.free h1) h2 (s1.trans h3)
    have kQ := kQ nb nc
    have s02 := s1.trans s2
    obtain ⟨ra, rx, rfl, rrow, ral, rpr, rnd⟩ := rec_row o nb
    obtain ⟨qs, rfl, q2, q3⟩ := prs_of ral rpr
    obtain ⟨ea, ks, rfl, erow, eat, k3, knd, kin⟩ := eds_row o2 nc
    rw [← q3] at rnd kQ
    rw [← k3] at kQ
    have okK : ∀ q ∈ ks, OkE q.2 := fun q hq => ok.okE (kin _ (List.mem_map.mpr ⟨q, hq, rfl⟩))
    have qok : ∀ q ∈ qs, OkE q.2.1.2 ∧ OkE q.2.2.2 := fun q hq => by
      have m : prV q ∈ qs.map prV := List.mem_map.mpr ⟨q, hq, rfl⟩
      rw [q3] at m
      obtain ⟨dz, hdz, ez⟩ := List.mem_map.mp m
      have pm := pairs_mem (pr_has ok.asc (rpr dz hdz))
      rw [ez] at pm
      exact ⟨ok.okE pm.1, ok.okE pm.2.1⟩
    have qlen : qs.length < 200 := by
      have h1 := odLen ral
      rw [List.length_map] at h1
      rcases od_cases o with ⟨_, it⟩ | ⟨_, _, ds, _, _, _, _, it⟩
      · unfold recBad at nb; rw [it] at nb; cases nb
      · have := len ds it
        have e : itemsD d = ds := by unfold itemsD; rw [it]; rfl
        rw [e] at h1; omega
    refine ⟨_, rfl, ra, _, rfl, rrow.same s02, fun J GG wk hG D hD => lc_it wk (fun i H' => Same H2 H' ∧ PrsAt H' D (((qs.take i).filter (inB (ks.map (·.2)))).map prV))
      ⟨Same.new hD, PrsAt.nil upd_same⟩ (fun i H' _ ⟨s, _⟩ => hG _ ((rrow.same s02).eq s)) ?_ ?_⟩
    · rintro i yv Ha Hb hi ⟨sA, RA⟩ ⟨rfl, hy⟩
      have hi : i < qs.length := by rw [List.length_map] at hi; exact hi
      rw [List.getElem?_map, List.getElem?_eq_getElem hi] at hy
      obtain rfl : V.ref qs[i].1 = yv := Option.some.inj hy
      have mi := List.getElem_mem hi
      have s0A := s02.trans sA
      have pq := (q2 _ mi).same s0A
      have tk : qs.take (i + 1) = qs.take i ++ [qs[i]] := take_one (List.getElem?_eq_getElem hi)
      have er := erow.same s0A
      have ee : ∀ p ∈ ks, EdAt Hb p := fun p hp => s0A _ _ (eat p hp)
      refine ⟨qs[i].1, _, rfl, SqT.of pq.ob, rfl, _, _, rfl, _, _, rfl, rfl, rfl, ?_⟩
      refine ⟨_, rfl, _, rfl, qs[i].2.1, ea, ks, rfl, rfl, pq.one, er, ee, (qok _ mi).1, okK, _, rfl, ?_⟩
      have hno : inB (ks.map (·.2)) qs[i] = false → PrsAt Hb D (((qs.take (i + 1)).filter (inB (ks.map (·.2)))).map prV) := fun n => by
        rw [tk, List.filter_append]
        have q : [qs[i]].filter (inB (ks.map (·.2))) = [] := by simp [n]
        rw [q, List.append_nil]; exact RA
      cases c1 : decide (qs[i].2.1.2 ∈ ks.map (·.2)) with
      | false => exact iteF (iteF ⟨sA, hno (by unfold inB; rw [c1]; rfl)⟩)
      | true =>
        refine iteT ⟨_, rfl, _, rfl, qs[i].2.2, ea, ks, rfl, rfl, pq.two, er, ee, (qok _ mi).2, okK, _, rfl, ?_⟩
        cases c2 : decide (qs[i].2.2.2 ∈ ks.map (·.2)) with
        | false => exact iteF ⟨sA, hno (by unfold inB; rw [c2, Bool.and_false])⟩
        | true =>
          refine iteT ⟨_, rfl, _, rfl, by show 2 ≤ sizeLine; decide, fun t ht => ?_⟩
          have s25 : Same Hb (L2.upd Hb t (.tup [.ref qs[i].2.1.1, .ref qs[i].2.2.1])) := Same.new (by exact ht)
          obtain ⟨zs, z1, z2, z3⟩ := (RA.kept s25).push (t := t) (p := qs[i].2.1) (q := qs[i].2.2) upd_same (s25 _ _ pq.one) (s25 _ _ pq.two)
          refine ⟨zs, z1, ?_, Same.grow hD (sA.trans s25), ?_⟩
          · rw [z2, List.length_map, sizeLine_eq]
            have := List.length_filter_le (inB (ks.map (·.2))) (qs.take i)
            rw [List.length_take] at this; omega
          · rw [tk, List.filter_append]
            have q : [qs[i]].filter (inB (ks.map (·.2))) = [qs[i]] := by
              have n : inB (ks.map (·.2)) qs[i] = true := by unfold inB; rw [c1, c2]; rfl
              simp [n]
            rw [q, List.map_append]; exact z3
    · rintro H3 ⟨s23, R3⟩
      rw [List.length_map, List.take_length] at R3
      have s03 := s02.trans s23
      have G3 := G.same s03
      obtain ⟨⟨dx, t1, t2, g1, g2, g3⟩, ge⟩ := id G3
      refine ⟨_, rfl, g, C, dx, _, _, rfl, g1, T.cl, T.nV, gf_v _ _, _, rfl, fun g' dx' hg hdx gdx => ?_⟩
      have sg : Same H3 (L2.upd (L2.upd H3 dx' (.own g')) g' (.ins C dx' [])) := fun b o x => by rw [upd_ne (ne_of_none x hg), upd_ne (ne_of_none x hdx)]; exact x
      have AR : ArgsR H3 t1 ea ns ks := ⟨.inr g2, ok.n0, ok.n8, ok.nd, ok.nm, erow.same s03, fun p hp => s03 _ _ (eat p hp), (fun p hp => ok.eo _ (kin _ (List.mem_map.mpr ⟨p, hp, rfl⟩))), knd, ?_⟩
      rotate_left
      · have := nodup_len knd kin
        rw [List.length_map] at this
        exact Nat.le_trans this ok.el
      refine ⟨g', dx', t1, ea, ns, ks, rfl, upd_same, AR.same sg, fun H4 G4 k4 => ⟨rfl, ?_⟩⟩
      have s34 : Same H3 H4 := Same.made hg hdx fun c o x n => k4 c o n x
      have R4 := R3.kept s34
      obtain ⟨zs, z1, z2, z3⟩ := id R4
      have zlen : zs.length < 1000 := by
        have e := congrArg List.length z3
        rw [List.length_map, List.length_map] at e
        have := List.length_filter_le (inB (ks.map (·.2))) qs
        omega
      refine ⟨_, rfl, D, zs, rfl, z1, z2, zlen, fun l hl => ?_⟩
      have s45 : Same H4 (L2.upd H4 l (.lst ((sortP zs).map fun p => V.ref p.1))) := Same.new hl
      have e5 : L2.upd H4 l (.lst ((sortP zs).map fun p => V.ref p.1)) l = some (.lst ((sortP zs).map fun p => V.ref p.1)) := upd_same
      generalize L2.upd H4 l (.lst ((sortP zs).map fun p => V.ref p.1)) = H5 at s45 e5 ⊢
      refine ⟨by show 2 ≤ sizeLine; decide, fun t ht => ?_⟩
      have s56 : Same H5 (L2.upd H5 t (.tup [.ref g', .ref l])) := Same.new ht
      have s46 := s45.trans s56
      have s04 := s03.trans s34
      have znd : (zs.map prV).Nodup := by
        rw [z3]
        exact (List.Sublist.map prV (List.filter_sublist)).nodup rnd
      refine kQ t g' l ks ((sortP zs).map prV) _ upd_same (G4.same s46) rfl (s04.free hl) ⟨sortP zs, s56 _ _ e5, fun q hq => (z2 q ((sortP_perm zs).mem_iff.mp hq)).same s46, rfl⟩ (sortP_lt znd) (fun k => ?_) (s04.trans s46)
      rw [((sortP_perm zs).map prV).mem_iff, z3]
      constructor
      · intro hk
        obtain ⟨q, hq, rfl⟩ := List.mem_map.mp hk
        obtain ⟨m1, m2⟩ := List.mem_filter.mp hq
        unfold inB at m2
        simp only [Bool.and_eq_true, decide_eq_true_eq] at m2
        exact ⟨List.mem_map.mpr ⟨q, m1, rfl⟩, m2⟩
      · rintro ⟨hk, h1, h2⟩
        obtain ⟨q, hq, rfl⟩ := List.mem_map.mp hk
        refine List.mem_map.mpr ⟨q, List.mem_filter.mpr ⟨hq, ?_⟩, rfl⟩
        show (decide ((prV q).1 ∈ ks.map (·.2)) && decide ((prV q).2 ∈ ks.map (·.2))) = true
        rw [decide_eq_true h1, decide_eq_true h2]; rfl
end
end CP
/-! _law_pairs of this row -/
namespace CP
open PySem L2
abbrev sLawPairs : Stmt := top 32
def g1B (e f : E2) : Bool := ltE e f && !decide (e.1 ∈ [f.1, f.2])
def g2B (e f : E2) : Bool := !decide (e.2 ∈ [f.1, f.2])
/-- the pairs of the i-th edge and the greater ones -/
def rowL (es : List E2) (i : Nat) : List (E2 × E2) := match es[i]? with
  | none => []
  | some e => ((es.filter (g1B e)).filter (g2B e)).map fun f => (e, f)
theorem filter_after {es : List E2} (h : es.Pairwise (fun e f => ltE e f = true)) {i : Nat} {e : E2} (hi : es[i]? = some e) : es.filter (ltE e) = es.drop (i + 1) := by
  induction es generalizing i with
  | nil => simp at hi
  | cons f es ih =>
    obtain ⟨h1, h2⟩ := List.pairwise_cons.mp h
    cases i with
    | zero =>
      obtain rfl : f = e := Option.some.inj hi
      rw [List.filter_cons, if_neg (by rw [ltE_irrefl]; decide)]
      exact List.filter_eq_self.mpr fun x hx => h1 x hx
    | succ i =>
      have hi' : es[i]? = some e := hi
      rw [List.filter_cons, if_neg (by rw [ltE_asymm (h1 e (List.mem_of_getElem? hi'))]; decide)]
      exact ih h2 hi'
theorem ap_test (e f : E2) : (!decide (e.1 ∈ [f.1, f.2]) && !decide (e.2 ∈ [f.1, f.2])) = apB e f := by
  unfold apB
  by_cases c1 : e.1 = f.1 <;> by_cases c2 : e.1 = f.2 <;> by_cases c3 : e.2 = f.1 <;> by_cases c4 : e.2 = f.2 <;> simp [c1, c2, c3, c4]
theorem rows_same {es : List E2} (h : es.Pairwise (fun e f => ltE e f = true)) (i : Nat) : rowL es i = rowP es i := by
  unfold rowL rowP
  cases q : es[i]? with
  | none => rfl
  | some e =>
    show ((es.filter (g1B e)).filter (g2B e)).map _ = ((es.drop (i + 1)).filter (apB e)).map _
    rw [← filter_after h q, List.filter_filter, List.filter_filter]
    congr 1
    refine List.filter_congr fun x _ => ?_
    rw [← ap_test]
    unfold g1B g2B
    cases ltE e x <;> cases decide (e.1 ∈ [x.1, x.2]) <;> cases decide (e.2 ∈ [x.1, x.2]) <;> rfl
theorem upTo_congr {r r' : Nat → List (E2 × E2)} (h : ∀ i, r i = r' i) : ∀ n, upTo r n = upTo r' n
  | 0 => rfl
  | n + 1 => by show upTo r n ++ r n = upTo r' n ++ r' n; rw [upTo_congr h n, h n]
theorem PrsAt.ext {H : Hp} {l m : Addr} {es fs : List (E2 × E2)} (h : PrsAt H l es) (hm : PrsAt H m fs) : ∃ zs ys : List V, H l = some (.lst zs) ∧ H m = some (.lst ys) ∧ zs.length = es.length ∧ ys.length = fs.length ∧ PrsAt (L2.upd H l (.lst (zs ++ ys))) l (es ++ fs) := by
  obtain ⟨ks, a, b, c⟩ := h
  obtain ⟨js, a2, b2, c2⟩ := hm
  refine ⟨_, _, a, a2, by rw [List.length_map, ← c, List.length_map], by rw [List.length_map, ← c2, List.length_map], ks ++ js, ?_, fun p hp => ?_, ?_⟩
  · rw [upd_same, List.map_append]
  · rcases List.mem_append.mp hp with hp | hp
    · exact (b p hp).keepL a
    · exact (b2 p hp).keepL a
  · rw [List.map_append, c, c2]
def spLawPairs : Sp := fun vs H Q _ => ∃ (b : Addr) (ks : List Ed), vs = [.ref b] ∧ H b = some (.lst (ks.map fun p => V.ref p.1)) ∧ (∀ p ∈ ks, EdAt H p) ∧ ks.length ≤ 18 ∧
  ∀ l H', H l = none → PrsAt H' l (upTo (rowL ((sortE ks).map (·.2))) (sortE ks).length) → Same H H' → Q (.ref l) H'
theorem op_notIn2 {X : Cx} (K : PySem.W.Frag) (h : X.K = K) : OpR X (compareOp .NotIn) (rIn K true) := h ▸ op_notIn_seq
theorem ix_tup2 {X : Cx} (K : PySem.W.Frag) (h : X.K = K) : IxR X (rIxT K) := h ▸ ix_tup
section
variable {P : Program} {w : World} {K : PySem.W.Frag} {mg : Str → Option Value} {base : Heap}
theorem rowL_len (es : List E2) (i : Nat) : (rowL es i).length ≤ es.length := by
  unfold rowL
  cases es[i]? with
  | none => exact Nat.zero_le _
  | some e =>
    show (((es.filter (g1B e)).filter (g2B e)).map fun f => (e, f)).length ≤ _
    rw [List.length_map]
    exact Nat.le_trans (List.length_filter_le _ _) (List.length_filter_le _ _)
theorem scLP : FnScope ["_law_edges", "_law_found", "_law_one_here", "_law_later", "_law_other"] ["_law_edges"] (defScope sLawPairs) := ⟨rfl, rfl, rfl, by decide +kernel, rfl, by decide +kernel, by decide +kernel⟩
theorem ok_lawpairs {f : Addr} {fd : FuncData} (F : Fun K "_law_pairs" "_law_pairs" sLawPairs f fd) (ms : mg "sorted" = none) : FnOk P w K mg base CX0 1 f fd ["_law_edges"] spLawPairs := by
  refine F.ok scLP (fun vs H Q E h => ?_) (fun cdv A outer s H vs Q E hr h => ?_)
  · obtain ⟨b, ks, rfl, _⟩ := h; rfl
  · obtain ⟨b, ks, rfl, hb, hed, h18, k⟩ := h
    refine ⟨_, pss_cons (ps_set (i := 1) scLP.nd rfl (Or.inl rfl) (pe_lst pa_nil))
      (pss_cons (ps_for PassesOwn.never rfl (pi_list (pe_callB (cr_sortE hr.units) (by rfl) ms (by decide +kernel) (pa_cons (pv 0) pa_nil))) (pg_name (i := 2) scLP.nd rfl (Or.inr rfl))
        (pss_cons (ps_setLc (i := 3) (own := [("_law_other", 4)]) (g := gName 4) rfl scLP.nd rfl rfl (sw_true rfl rfl rfl (by decide +kernel)) (pi_list (pe_callB (cr_sortE hr.units) (by rfl) ms (by decide +kernel) (pa_cons (pv 0) pa_nil)))
          (blkOk_by (own := [("_law_other", 4)]) (N := ["_law_edges", "_law_found", "_law_one_here", "_law_later", "_law_other"]) (sc := defScope sLawPairs) (by decide +kernel))
          (fun _ _ _ _ _ => pg_name (i := 4) scLP.nd rfl (Or.inl rfl)) (fun _ _ _ _ _ => pts_one (PW.pt (pw_and (pt_cmpR (op_ltE hr.units) (pv 2) (pv 4) (nomark _)) (pw_and1 (pt_cmpR (op_notIn2 K rfl) (pe_ix (ix_tup2 K rfl) (pv 2) pe_int (fun _ _ => rfl)) (pv 4) rfl))))) (fun _ _ _ _ _ => pv 4))
        (pss_one (ps_expr (pe_bm PySem.F.plainAttrs_list PySem.F.slot_list_extend PySem.F.type_list_extend mt_extend (pv 1) (pa_cons (pe_lc (own := [("_law_other", 4)]) (g := gName 4) rfl scLP.nd (pi_list (pv 3))
          (blkOk_by (own := [("_law_other", 4)]) (N := ["_law_edges", "_law_found", "_law_one_here", "_law_later", "_law_other"]) (sc := defScope sLawPairs) (by decide +kernel))
          (fun _ _ _ _ _ => pg_name (i := 4) scLP.nd rfl (Or.inl rfl)) (fun _ _ _ _ _ => pts_one (pt_cmpR (op_notIn2 K rfl) (pe_ix (ix_tup2 K rfl) (pv 2) pe_int (fun _ _ => rfl)) (pv 4) rfl)) (fun _ _ _ _ _ => pe_tup (pa_cons (pv 2) (pa_cons (pv 4) pa_nil)))) pa_nil))))))
      (pss_one (ps_ret (pv 1)))), ?_⟩
    refine ⟨by show 0 ≤ sizeLine; decide, fun l hl => ?_⟩
    have s0 : Same H (L2.upd H l (.lst [])) := Same.new hl
    generalize hS : sortE ks = S
    have pS : S.Perm ks := by rw [← hS]; exact sortE_perm ks
    have Sl : S.length ≤ 18 := by rw [pS.length_eq]; exact h18
    have Sed : ∀ {H' : Hp}, Same H H' → ∀ p ∈ S, EdAt H' p := fun s p hp => s _ _ (hed p (pS.mem_iff.mp hp))
    refine ⟨_, rfl, b, ks, rfl, s0 _ _ hb, fun p hp => s0 _ _ (hed p hp), by omega, fun sl hsl => ?_⟩
    rw [hS]
    have s1 : Same H (L2.upd (L2.upd H l (.lst [])) sl (.lst (S.map fun p => V.ref p.1))) := s0.trans (Same.new hsl)
    refine ⟨sl, rfl, ⟨_, SqL.of upd_same⟩, for_list (K := K) (a := sl) (xs := S.map fun p => V.ref p.1) (fun i σ H' => ∃ v2 v3, σ = [some (.ref b), some (.ref l), v2, v3, none] ∧ Same H H' ∧ H' sl = some (.lst (S.map fun p => V.ref p.1)) ∧ PrsAt H' l (upTo (rowL (S.map (·.2))) i))
      ⟨_, _, rfl, s1, upd_same, PrsAt.nil (by rw [upd_ne (ne_of_none upd_same hsl)]; exact upd_same)⟩ (fun i σ H' _ ⟨_, _, _, _, q, _⟩ => SqL.of q) ?_ ?_⟩
    · rintro i x σ H2 hi ⟨v2, v3, rfl, s2, q2, R2⟩
      have li : i < S.length := by have := (List.getElem?_eq_some_iff.mp hi).1; rw [List.length_map] at this; exact this
      rw [List.getElem?_map, List.getElem?_eq_getElem li] at hi
      obtain rfl : V.ref S[i].1 = x := Option.some.inj hi
      have mi : S[i] ∈ S := List.getElem_mem li
      generalize hp : S[i] = p at mi
      refine ⟨_, rfl, b, ks, rfl, s2 _ _ hb, fun p hp => s2 _ _ (hed p hp), by omega, fun sm hsm => ?_⟩
      rw [hS]
      have s3 : Same H2 (L2.upd H2 sm (.lst (S.map fun p => V.ref p.1))) := Same.new hsm
      generalize hH3 : L2.upd H2 sm (.lst (S.map fun p => V.ref p.1)) = H3 at s3
      have q3 : H3 sm = some (.lst (S.map fun p => V.ref p.1)) := by rw [← hH3]; exact upd_same
      have s23 := s2.trans s3
      refine ⟨sm, rfl, ⟨_, SqL.of q3⟩, fun D hD => lc_list (K := K) (a := sm) (xs := S.map fun p => V.ref p.1) (fun j H' => Same H3 H' ∧ H' D = some (.lst (((S.take j).filter fun q => g1B p.2 q.2).map fun q => V.ref q.1)))
        ⟨Same.new hD, upd_same⟩ (fun j H' _ ⟨s, _⟩ => SqL.of (s _ _ q3)) ?_ ?_⟩
      · rintro j y H4 hj ⟨s4, e4⟩
        have lj : j < S.length := by have := (List.getElem?_eq_some_iff.mp hj).1; rw [List.length_map] at this; exact this
        rw [List.getElem?_map, List.getElem?_eq_getElem lj] at hj
        obtain rfl : V.ref S[j].1 = y := Option.some.inj hj
        have mj : S[j] ∈ S := List.getElem_mem lj
        have tk : S.take (j + 1) = S.take j ++ [S[j]] := take_one (List.getElem?_eq_getElem lj)
        have ep := Sed (s23.trans s4) p mi
        have eq := Sed (s23.trans s4) S[j] mj
        have two : ∀ z : Str, inV (.str z) [.str S[j].2.1, .str S[j].2.2] = decide (z ∈ [S[j].2.1, S[j].2.2]) := fun z => inV_txt z [S[j].2.1, S[j].2.2]
        have hno : g1B p.2 S[j].2 = false → H4 D = some (.lst (((S.take (j + 1)).filter fun q => g1B p.2 q.2).map fun q => V.ref q.1)) := fun c => by
          rw [tk, List.filter_append]
          have q : [S[j]].filter (fun q => g1B p.2 q.2) = [] := by simp [c]
          rw [q, List.append_nil]; exact e4
        refine ⟨rfl, _, rfl, _, rfl, p, S[j], rfl, rfl, ep, eq, _, rfl, ?_⟩
        cases c0 : ltE p.2 S[j].2 with
        | false => exact iteF (iteF ⟨s4, hno (by unfold g1B; rw [c0]; rfl)⟩)
        | true =>
          refine iteT ⟨_, rfl, p.1, _, _, _, rfl, rfl, SqT.of ep, (atI_nat (j := 0) rfl), _, rfl, S[j].1, _, rfl, .inr (SqT.of eq), rfl, rfl, _, rfl, ?_⟩
          show if (!inV (.str p.2.1) [.str S[j].2.1, .str S[j].2.2]) = true then _ else _
          rw [two]
          cases c1 : decide (p.2.1 ∈ [S[j].2.1, S[j].2.2]) with
          | true => exact iteF ⟨s4, hno (by unfold g1B; rw [c0, c1]; rfl)⟩
          | false =>
            have c : g1B p.2 S[j].2 = true := by unfold g1B; rw [c0, c1]; rfl
            refine iteT ⟨_, rfl, _, e4, ?_, Same.grow hD s4, ?_⟩
            · rw [List.length_map, sizeLine_eq]
              have := List.length_filter_le (fun q : Ed => g1B p.2 q.2) (S.take j)
              rw [List.length_take] at this; omega
            · rw [upd_same, tk, List.filter_append]
              have q : [S[j]].filter (fun q => g1B p.2 q.2) = [S[j]] := by simp [c]
              rw [q, List.map_append]; rfl
      · rintro H4 ⟨s4, e4⟩
        rw [List.length_map, List.take_length] at e4
        have s24 := s23.trans s4
        have H24 : Same H2 H4 := s3.trans s4
        obtain ⟨_, r1, _⟩ := R2.kept H24
        refine ⟨_, rfl, .inl ⟨rfl, _, SqL.of r1⟩, _, rfl, D, rfl, ⟨_, SqL.of e4⟩, fun D2 hD2 => lc_list (K := K) (a := D) (xs := (S.filter fun q => g1B p.2 q.2).map fun q => V.ref q.1) (fun j H' => Same H4 H' ∧ PrsAt H' D2 ((((S.filter fun q => g1B p.2 q.2).take j).filter fun q => g2B p.2 q.2).map fun q => (p.2, q.2)))
          ⟨Same.new hD2, PrsAt.nil upd_same⟩ (fun j H' _ ⟨s, _⟩ => SqL.of (s _ _ e4)) ?_ ?_⟩
        · rintro j y H5 hj ⟨s5, R5⟩
          generalize hJ : (S.filter fun q => g1B p.2 q.2) = J at hj R5 ⊢
          have Jsub : ∀ q ∈ J, q ∈ S := fun q hq => by rw [← hJ] at hq; exact (List.mem_filter.mp hq).1
          have Jlen : J.length ≤ 18 := by rw [← hJ]; exact Nat.le_trans (List.length_filter_le _ _) Sl
          have lj : j < J.length := by have := (List.getElem?_eq_some_iff.mp hj).1; rw [List.length_map] at this; exact this
          rw [List.getElem?_map, List.getElem?_eq_getElem lj] at hj
          obtain rfl : V.ref J[j].1 = y := Option.some.inj hj
          have mj : J[j] ∈ J := List.getElem_mem lj
          have tk : J.take (j + 1) = J.take j ++ [J[j]] := take_one (List.getElem?_eq_getElem lj)
          have ep := Sed (s24.trans s5) p mi
          have eq := Sed (s24.trans s5) J[j] (Jsub _ mj)
          have two : ∀ z : Str, inV (.str z) [.str J[j].2.1, .str J[j].2.2] = decide (z ∈ [J[j].2.1, J[j].2.2]) := fun z => inV_txt z [J[j].2.1, J[j].2.2]
          refine ⟨rfl, _, rfl, p.1, _, _, _, rfl, rfl, SqT.of ep, (atI_nat (j := 1) rfl), _, rfl, J[j].1, _, rfl, .inr (SqT.of eq), rfl, rfl, _, rfl, ?_⟩
          show if (!inV (.str p.2.2) [.str J[j].2.1, .str J[j].2.2]) = true then _ else _
          rw [two]
          cases c1 : decide (p.2.2 ∈ [J[j].2.1, J[j].2.2]) with
          | false =>
            have c : g2B p.2 J[j].2 = true := by unfold g2B; rw [c1]; rfl
            refine iteT ⟨_, rfl, _, rfl, by show 2 ≤ sizeLine; decide, fun t ht => ?_⟩
            have s6 : Same H5 (L2.upd H5 t (.tup [.ref p.1, .ref J[j].1])) := Same.new ht
            obtain ⟨zs, z1, z2, z3⟩ := (R5.kept s6).push (t := t) upd_same (s6 _ _ ep) (s6 _ _ eq)
            refine ⟨zs, z1, ?_, Same.grow hD2 (s5.trans s6), ?_⟩
            · rw [z2, List.length_map, sizeLine_eq]
              have := List.length_filter_le (fun q : Ed => g2B p.2 q.2) (J.take j)
              rw [List.length_take] at this; omega
            · rw [tk, List.filter_append, List.map_append]
              have q : [J[j]].filter (fun q => g2B p.2 q.2) = [J[j]] := by simp [c]
              rw [q]; exact z3
          | true =>
            have c' : g2B p.2 J[j].2 = false := by unfold g2B; rw [c1]; rfl
            refine iteF ⟨s5, ?_⟩
            rw [tk, List.filter_append]
            have q : [J[j]].filter (fun q => g2B p.2 q.2) = [] := by simp [c']
            rw [q, List.append_nil]; exact R5
        · rintro H5 ⟨s5, R5⟩
          rw [List.length_map, List.take_length] at R5
          have er : rowL (S.map (·.2)) i = ((S.filter fun q => g1B p.2 q.2).filter fun q => g2B p.2 q.2).map fun q => (p.2, q.2) := by
            unfold rowL
            rw [List.getElem?_map, List.getElem?_eq_getElem li, hp]
            show (((S.map (·.2)).filter (g1B p.2)).filter (g2B p.2)).map (fun f => (p.2, f)) = _
            rw [List.filter_map, List.filter_map, List.map_map]; rfl
          rw [← er] at R5
          obtain ⟨zs, ys, z1, z2, z3, z4, z5⟩ := ((R2.kept H24).kept s5).ext R5
          refine ⟨l, D2, zs, ys, rfl, rfl, z1, z2, ?_, ?_⟩
          · rw [z3, z4, sizeLine_eq]
            have a1 := upTo_len (m := S.length) (fun i => by have := rowL_len (S.map (·.2)) i; rw [List.length_map] at this; exact this) i
            have a2 := rowL_len (S.map (·.2)) i
            rw [List.length_map] at a2
            have a3 : i * S.length ≤ 18 * 18 := Nat.mul_le_mul (by omega) Sl
            omega
          · refine ⟨_, _, rfl, Same.grow hl (s24.trans s5), ?_, z5⟩
            have q5 := s5 _ _ (H24 _ _ q2)
            have nl : sl ≠ l := fun z => by
              have := hsl
              rw [z, upd_same] at this; cases this
            rw [upd_ne nl]; exact q5
    · rintro σ H2 ⟨v2, v3, rfl, s2, q2, R2⟩
      rw [List.length_map] at R2
      exact ⟨_, rfl, k l H2 hl (by rw [hS]; exact R2) s2⟩
end
end CP
/-! try with several clauses 'except X as n' -/
namespace CP
open PySem PySem.Spec PyProof.Rows L2
/-- a clause: its class, its name's slot, what its suite does -/
structure Cl where
  c : Value
  i : Nat
  ts : Addr → Value → Option Addr → TS
/-- the ends of a clause's suite: its name is gone -/
def offN (i : Nat) (D : Ends) : Ends := { nx := fun σ H => D.nx (σ.set i none) H, rt := D.rt, bk := fun σ H => D.bk (σ.set i none) H, ct := fun σ H => D.ct (σ.set i none) H }
/-- what the clauses wish, the first that fits takes it -/
def wClauses (K : PySem.W.Frag) (Wout : WX) (D : Ends) (l : List Cl) : WX :=
  l.foldr (fun k W cls d σ H => ∃ b, PySem.W.exmOne K cls k.c = some b ∧ (b = true → ∀ a, H a = none → k.ts a cls d (offN k.i D) (σ.set k.i (some (.ref a))) H) ∧ (b = false → W cls d σ H)) Wout
inductive ClsOk (X : Cx) : List ExceptHandler → List Cl → Prop
  | nil : ClsOk X [] []
  | cons {x n : Str} {c : Value} {i : Nat} {ts : Addr → Value → Option Addr → TS} {b₀ : Stmt} {suite : List Stmt} {np p : Pos} {hds : List ExceptHandler} {l : List Cl} (hc : Names X x c) (hi : X.N[i]? = some n) (hl : X.env.kindOf n = some .local)
      (hsu : ∀ (a : Addr) (oe : Obj) (cls : Value) (d : Option Addr) (pn : List (Addr × Obj)), Zc cls d oe → (∃ vs, oe.data = .fields vs) → PSs (X.suite a ((a, oe) :: pn)) (b₀ :: suite) (ts a cls d)) (r : ClsOk X hds l) :
      ClsOk X (.ExceptHandler (some (.Name x np)) (some n) (b₀ :: suite) p :: hds) (⟨c, i, ts⟩ :: l)
section
variable {X : Cx} {body : List Stmt} {h₀ : ExceptHandler} {hds : List ExceptHandler} {l : List Cl} {pos : Pos} {tb : WX → TS} {Wout : WX}
/-- an exception that has landed in this frame -/
structure Down (X : Cx) (pins : List (Addr × Obj)) (a : Addr) (B : Heap) (sI s : Shared) (h : Heap) (σ : L2.St) (H : Hp) (cls : Value) (d : Option Addr) : Prop where
  inv : L2.Inv X pins σ H sI
  nb : ∀ b o, sI.heap.get? b = some o → b ∉ frs X.stack → B.get? b = some o
  up : sI.heap.UpToSlots h
  fl : HandSPX.FlyingZ B (X.env :: X.outer) a (Zc cls d) h
  na : H a = none
  os : s.os = sI.os
  ag : AllBare s.gens
theorem Down.fits {pins : List (Addr × Obj)} {a : Addr} {B h : Heap} {sI s : Shared} {σ : L2.St} {H : Hp} {cls : Value} {d : Option Addr} (w : Down X pins a B sI s h σ H cls d) (hf : X.env.frame = some X.env.locals) :
    ∃ oe : Obj, h.get? a = some oe ∧ Zc cls d oe ∧ (∃ vs, oe.data = .fields vs) ∧ L2.Inv (X.suite a ((a, oe) :: (X.pn ++ pins))) [] σ H { s with heap := h } ∧ L2.Inv X pins σ H { s with heap := h } := by
  have J := w.inv.landed (s' := { s with heap := h }) w.nb w.fl.1 w.up w.os w.ag
  obtain ⟨oe, vs, he, hz, hd⟩ := w.fl.there
  have nfr : a ∉ frs (X.env :: X.outer) := fun hm => by
    obtain ⟨_, o, e, n⟩ := w.fl.2.2.1.mem hm
    rw [he] at e; cases e
    exact n _ hd
  refine ⟨oe, he, hz, ⟨vs, hd⟩, J.suite he hd w.na (fun z => nfr (List.mem_filterMap.mpr ⟨X.env, List.mem_cons_self, by rw [hf, z]⟩)) (fun hm => ?_), J⟩
  obtain ⟨e, he, q⟩ := List.mem_filterMap.mp hm
  exact nfr (List.mem_filterMap.mpr ⟨e, List.mem_cons_of_mem _ he, q⟩)
theorem Down.run {pins : List (Addr × Obj)} {D : Ends} {a : Addr} {B h : Heap} {sI s : Shared} {σ : L2.St} {H : Hp} {cls : Value} {d : Option Addr} (w : Down X pins a B sI s h σ H cls d) (hs : X.stack = X.env :: X.outer) (hf : X.env.frame = some X.env.locals) (hN : X.N.Nodup) (tk : Takes X Wout) (ok : X.Ok)
    {hds : List ExceptHandler} {l : List Cl} (hk : ClsOk X hds l) : wClauses X.K Wout D l cls d σ H → wpAny (model X.prog X.w) X.A (handleBy (.ref a) X.env hds) (SP X pins D) X.xe { s with heap := h } := by
  induction hk with
  | nil =>
    intro q
    refine wpAny_handleBy_nil ?_
    obtain ⟨_, _, _, oe, vs, T, oT, ts', he, hz, hd, h1, hr⟩ := id w.fl
    have fin : wpAny (model X.prog X.w) X.A (setFlight (.ref a) X.env.frame) (fun _ s4 => wpAny (model X.prog X.w) X.A (throw (.ref a) : Sem Flow) (SP X pins D) X.xe s4) X.xe { s with heap := h } := by
      rw [hf]
      exact HandSPX.setFlight_upZ w.fl fun h4 hh4 up4 => wpAny_throw (tk _ _ ⟨a, B, sI, pins, σ, H, cls, d, rfl, w.inv, w.nb, w.up.trans up4, .inr (.inr (by rw [hs]; exact hh4)), w.na, w.os, w.ag, q⟩)
    unfold PySem.passOn
    refine wpAny_bind (wpAny_field he hd h1 ?_)
    rw [if_neg (show ¬ ((Value.ref T == Value.none) = true) from by simp)]
    first
      | exact wpAny_bind (wpAny_pure (wpAny_bind fin))
      | exact wpAny_bind fin
  | @cons x n c i ts b₀ suite np p hds l hc hi hl hsu r ih =>
    rintro ⟨b, hb, hyes, hno⟩
    obtain ⟨oe, he, hz, hd, S, J⟩ := w.fits hf
    have LT : PySem.W.Looks (model X.prog X.w) h (typeOf (.ref a)) cls := fun A Q E s k q => wpAny_typeOf_ref (k _ _ he) (by rw [hz.1]; exact q)
    refine wpAny_handleBy_cons (codeAny_handlers_test ?_) (by intro q; cases q)
    have go : ∀ {Q : Value → Shared → Prop} {E : Value → Shared → Prop}, Q c { s with heap := h } → wpAny (model X.prog X.w) (X.A.mark (some (.ref a))) (eval (.Name x np) X.env) Q E { s with heap := h } := fun {Q E} q => by
      obtain ⟨hg, hdbg, hm | ⟨hm, hv, hnn⟩⟩ := hc
      · exact ld_glob (X := X.suite a ((a, oe) :: (X.pn ++ pins))) S hg hm q hdbg
      · exact ld_blt (X := X.suite a ((a, oe) :: (X.pn ++ pins))) S hg hm hv q hnn hdbg
    refine go ((PySem.W.exm_one (M := model X.prog X.w) J.kIn LT hb).here ?_)
    cases b with
    | false => exact ih (hno rfl)
    | true =>
      refine codeAny_handlers_suite_as (HandSPX.lands_againZ w.fl fun h4 fl4 up4 => ?_)
      have w4 : Down X pins a B sI s h4 σ H cls d := ⟨w.inv, w.nb, w.up.trans up4, fl4, w.na, w.os, w.ag⟩
      obtain ⟨o4, he4, hz4, hd4, S4, _⟩ := w4.fits hf
      refine store_ok (X := X.suite a ((a, o4) :: (X.pn ++ pins))) (v := .ref a) S4 hN hi (.inl hl) rfl (fun s5 S5 => ?_) (.inr hl)
      refine wpAny_mono ((hsu a o4 cls d (X.pn ++ pins) hz4 hd4).run [] s5 _ H _ S5 (hyes rfl a w.na)) (fun f s6 hsp => ?_) (fun _ _ z => False.elim z)
      match f, hsp with
      | .next, ⟨σ6, H6, S6, q6⟩ => exact gone_ok (S6.unsuite ok) hN hi hl fun s7 J7 => ⟨_, _, J7, q6⟩
      | .brk, ⟨σ6, H6, S6, q6⟩ => exact gone_ok (S6.unsuite ok) hN hi hl fun s7 J7 => ⟨_, _, J7, q6⟩
      | .cont, ⟨σ6, H6, S6, q6⟩ => exact gone_ok (S6.unsuite ok) hN hi hl fun s7 J7 => ⟨_, _, J7, q6⟩
      | .ret u, ⟨v6, σ6, H6, S6, r6, q6⟩ => exact gone_ok (S6.unsuite ok) hN hi hl fun s7 J7 => ⟨_, _, _, J7, r6, q6⟩
theorem ps_try_clauses (hs : X.stack = X.env :: X.outer) (hf : X.env.frame = some X.env.locals) (hN : X.N.Nodup) (tk : Takes X Wout)
    (hb : ∀ (W : WX) (pn : List (Addr × Obj)) (xe : Value → Shared → Prop), Takes (X.tr pn xe) W → PassesOwn (model X.prog X.w) X.A X.env xe → PSs (X.tr pn xe) body (tb W))
    (hh : ClsOk X (h₀ :: hds) l) : PS X (.Try body (h₀ :: hds) [] [] pos) (fun D σ H => tb (wClauses X.K Wout D l) D σ H) := by
  refine ⟨fun pins s σ H D I h => wpAny_Try_except ?_⟩
  have ok := I.ok
  have hfr : X.A.frames = some (X.env :: X.outer) := by rw [ok.frames, hs]
  refine wpAny_mono ((hb (wClauses X.K Wout D l) (X.pn ++ pins) _ (fun u s' xx => ?_) PassesOwn.looking).run [] s σ H D (I.toTry _) h) (fun f s1 hsp => ?_) (fun e s1 he => he)
  · obtain ⟨a, B, sI, pins', σ', H', cls, d, rfl, J', nb, up, sky, na, os, ag, q⟩ := xx
    refine Sky.land Zc.steady hfr hf (show Sky B (X.env :: X.outer) a (Zc cls d) X.env.locals s'.heap by rw [← hs]; exact sky) fun h3 fl3 up3 => ?_
    exact Down.run ⟨J'.ofTry ok, nb, up.trans up3, fl3, na, os, ag⟩ hs hf hN tk ok hh q
  · match f, hsp with
    | .next, ⟨σ', H', J', q⟩ => exact wpAny_execs_nil ⟨σ', H', J'.ofTry ok, q⟩
    | .brk, ⟨σ', H', J', q⟩ => exact ⟨σ', H', J'.ofTry ok, q⟩
    | .cont, ⟨σ', H', J', q⟩ => exact ⟨σ', H', J'.ofTry ok, q⟩
    | .ret u, ⟨v, σ', H', J', r, q⟩ => exact ⟨v, σ', H', J'.ofTry ok, r, q⟩
end
end CP
namespace CP
open PySem PySem.Spec PyProof.Rows L2
abbrev sTold : Stmt := top 34
def rIsXdT (K : PySem.W.Frag) (C a : Addr) (cls : Value) (d : Option Addr) : List V → Hp → VK → Prop := fun xs H Q => ∃ (tp : Addr) (cs : List V) (ws : List Value) (b : Bool) (dd : Addr) (fs : List (Str × V)), xs = [.ref a, .ref tp] ∧ cls = .ref C ∧ d = some dd ∧ H dd = some (.xd fs) ∧ H tp = some (.tup cs) ∧ Paired ClsV cs ws ∧ PySem.W.kitAny K (.ref C) ws = some b ∧ Q (.bl b) H
section
variable {X : Cx} {a C : Addr} {oe : Obj} {cls : Value} {d : Option Addr} {pn : List (Addr × Obj)}
theorem caught_at {pins : List (Addr × Obj)} {σ : L2.St} {H : Hp} {s : Shared} {dd : Addr} {fs : List (Str × V)} (hz : Zc (.ref C) (some dd) oe) (hf : ∃ vs, oe.data = .fields vs) (I : L2.Inv (X.suite a ((a, oe) :: pn)) pins σ H s) (ea : H dd = some (.xd fs)) : ∃ od, PySem.W.InstAt s.heap a oe C (some od) := by
  have got := (I.pin (a, oe) (List.mem_append_left _ List.mem_cons_self)).1
  obtain ⟨vs, hd⟩ := hf
  obtain ⟨mA, hns, _⟩ := (show ObjOk X.prog X.w H s.heap dd (.xd fs) from I.hok dd _ ea)
  obtain ⟨od, ho, _⟩ := lookIn_ns hns
  exact ⟨od, got, hz.1, by unfold PySem.W.notCls; rw [hd], by rw [hz.2]; exact ho⟩
theorem call_isXdT (T : XCls X.K C) (hz : Zc cls d oe) (hf : ∃ vs, oe.data = .fields vs) : CallR (X.suite a ((a, oe) :: pn)) (.builtin "isinstance") (rIsXdT X.K C a cls d) := by
  intro pins s σ H xs us Q I r ⟨tp, cs, ws, b, dd, fs, e0, e1, e2, ea, hT, k, e, q⟩
  subst e0 e1 e2
  obtain ⟨u1, u2, rfl, r1, r2⟩ := vals2 r
  cases (show u2 = Value.ref tp from r2)
  cases (show u1 = Value.ref a from r1)
  obtain ⟨od, J⟩ := caught_at hz hf I ea
  obtain ⟨_, its, rv, ⟨oc, odd, dt, sl⟩, h1, h2, n, h3⟩ := (show ObjOk X.prog X.w H s.heap tp (.tup cs) from I.hok tp _ hT)
  have e3 := ClsV.all k rv
  subst e3
  simp only at h2 h3
  subst h2 h3
  exact PySem.W.kia_tup (PySem.W.kitx_exc (od := some od) T.cl T.ga T.gg T.sb T.ca T.sg T.tk T.mo) I.kIn J h1 e (fun z => nomatch z) fun tk => ⟨.bl b, H, I.tok tk, rfl, q⟩
end
section
variable {X : Cx}
/-- repr(x) of data of any kind -/
def rReprV (K : PySem.W.Frag) : List V → Hp → VK → Prop := fun xs H Q => ∃ (v : V) (d : PyData), xs = [v] ∧ Dp K H v d ∧ d.showable = true ∧ d.hasDict = false ∧ d.depth ≤ 60 ∧ d.shown.length ≤ sizeLine ∧ Q (.str d.shown) H
theorem call_reprV (K : PySem.W.Frag) (hK : X.K = K) (gds : X.A.guards = some []) (hu : X.A.units + 64 < cLine) : CallR X (.builtin "repr") (rReprV K) := by
  subst hK
  intro pins s σ H xs us Q I r h
  obtain ⟨v, d, rfl, hd, h1, h2, h3, h4, q⟩ := h
  obtain ⟨u, rfl, rx⟩ := vals1 r
  cases hd with
  | non =>
    cases rx
    exact P.repr_of_none ⟨.str "None", H, I.tok _, ⟨_, rfl⟩, by simpa only [PyData.shown] using q⟩
  | int i =>
    obtain ⟨t, rfl⟩ := rx
    simp only [PyData.showable, decide_eq_true_eq] at h1
    exact P.repr_of_int h1 ⟨.str (toString i), H, I.tok _, ⟨_, rfl⟩, by simpa only [PyData.shown] using q⟩
  | str z =>
    obtain ⟨t, rfl⟩ := rx
    simp only [PyData.shown] at h4 q
    exact P.repr_of_str ⟨.str (reprText z), H, I.tok _, ⟨_, rfl⟩, q⟩ h4
  | lst a b => exact call_reprD gds hu pins s σ H _ _ Q I r ⟨_, _, rfl, .lst a b, h1, h2, h3, h4, q⟩
  | tup a b => exact call_reprD gds hu pins s σ H _ _ Q I r ⟨_, _, rfl, .tup a b, h1, h2, h3, h4, q⟩
  | bl b =>
    cases rx
    exact P.repr_of_bool ⟨.str (if b then "True" else "False"), H, I.tok _, ⟨_, rfl⟩, by cases b <;> simpa [PyData.shown] using q⟩
end
structure ReprOk (b : PyData) : Prop where
  lay : b.canLay0 = true
  sho : b.showable = true
  dep : b.depth ≤ 60
  len : b.shown.length ≤ sizeLine
mutual
theorem Od.dp {K : PySem.W.Frag} {H : Hp} : ∀ {x : V} {d : PyData}, Od H x d → d.canLay0 = true → Dp K H x d
  | _, _, .non, _ => .non
  | _, _, .int i, _ => .int i
  | _, _, .str z, _ => .str z
  | _, _, .lst h a, l => .lst (SqL.of h) (OdAll.dp a (by simpa [PyData.canLay0] using l))
  | _, _, .tup h a, l => .tup (SqT.of h) (OdAll.dp a (by simpa [PyData.canLay0] using l))
  | _, _, .dct h, l => by simp [PyData.canLay0] at l
  | _, _, .dcT h, l => by simp [PyData.canLay0] at l
theorem OdAll.dp {K : PySem.W.Frag} {H : Hp} : ∀ {xs : List V} {ds : List PyData}, OdAll H xs ds → PyData.canLayAll0 ds = true → DpAll K H xs ds
  | _, _, .nil, _ => .nil
  | _, _, .cons o a, l => by
    simp only [PyData.canLayAll0, Bool.and_eq_true] at l
    exact .cons (o.dp l.1) (a.dp l.2)
end
def spTold (C : Addr) : Sp := fun vs H Q _ => ∃ (g : Addr) (ns : List Str) (es : List Ed) (x y : V) (d d2 : PyData), vs = [.ref g, x, y] ∧ GrAt C H g ns es ∧ GOk ns (es.map (·.2)) ∧ Od H x d ∧ Od H y d2 ∧ (∀ ds, itD d = some ds → ds.length < 200) ∧ (∀ ds, itD d2 = some ds → ds.length < 200) ∧
  ((∃ i, recBad ns (es.map (·.2)) d = some i ∧ ∀ t H', H t = none → H' t = some (.tup [.str "record", .int i]) → Same H H' → Q (.ref t) H') ∨
   (recBad ns (es.map (·.2)) d = none ∧ ∃ b, edsBad ns (es.map (·.2)) d2 = some b ∧ ReprOk b ∧ ∀ t H', H t = none → H' t = some (.tup [.str "edge", .str b.shown, .bl false]) → Same H H' → Q (.ref t) H'))
section
variable {P : Program} {w : World} {K : PySem.W.Frag} {mg : Str → Option Value} {base : Heap}
abbrev pTold : List Str := ["_law_graph_here", "_law_record", "_law_edges"]
abbrev nTold : List Str := ["_law_graph_here", "_law_record", "_law_edges", "e"]
theorem scTold : FnScope nTold pTold (defScope sTold) := ⟨rfl, rfl, rfl, by decide +kernel, rfl, by decide +kernel, by decide +kernel⟩
theorem ok_told {f fF C Cr Cc Ce : Addr} {fd fdF : FuncData} (F : Fun K "_law_told" "_law_told" sTold f fd) (mi : mg "isinstance" = none) (mrp : mg "repr" = none)
    (TR : XCls K Cr) (fR : XfC K Cr) (noR : PySem.W.findIn K (.ref Cr) "at" = some none) (TE : XCls K Ce) (fE : XfC K Ce) (noE : PySem.W.findIn K (.ref Ce) "edge" = some none)
    (eRR : PySem.W.exmOne K (.ref Cr) (.ref Cr) = some true) (eER : PySem.W.exmOne K (.ref Ce) (.ref Cr) = some false) (eEE : PySem.W.exmOne K (.ref Ce) (.ref Ce) = some true)
    (mR : mg "NoRecord" = some (.ref Cr)) (mC : mg "NoCarry" = some (.ref Cc)) (mE : mg "NoEdge" = some (.ref Ce)) (kE : PySem.W.kitAny K (.ref Ce) [.ref Cr, .ref Cc] = some false)
    (mF : mg "restricted" = some (.ref fF)) (GF : FnOk P w K mg base (L2.CX P w) 6 fF fdF ["graph", "record", "edges"] (spRestr C Cr Ce)) (kF : PySem.W.keepIn K (.ref fF) = true) (bF : Binds K fdF ["graph", "record", "edges"] []) :
    FnG P w K mg base 7 f fd pTold (spTold C) := by
  refine okG F scTold (fun vs H Q E h => ?_) (fun cdv A outer s H vs Q E hr gds h => ?_)
  · obtain ⟨g, ns, es, x, y, d, d2, rfl, _⟩ := h; rfl
  · obtain ⟨g, ns, es, x, y, d, d2, rfl, G, ok, o, o2, len, len2, k⟩ := h
    have hun := hr.units
    refine ⟨_, pss_one (ps_try_clauses rfl rfl scTold.nd takes0
        (fun W pn xe tk _ => pss_one (ps_ret (pe_callS GF hr rfl mF kF bF (fun σ => passAt tk σ) (pa_cons (pv 0) (pa_cons (pv 1) (pa_cons (pv 2) pa_nil))))))
        (.cons (i := 3) ⟨rfl, by decide, .inl mR⟩ rfl rfl
          (fun a oe cls d pn hz hf => pss_one (ps_ret (pe_tup (pa_cons pe_str (pa_cons (pe_xf fR noR hz hf (pv 3)) pa_nil)))))
        (.cons (i := 3) ⟨rfl, by decide, .inl mE⟩ rfl rfl
          (fun a oe cls d pn hz hf => pss_one (ps_ret (pe_tup (pa_cons pe_str (pa_cons (pe_callB (call_reprV K rfl gds hun) (by rfl) mrp (by decide +kernel) (pa_cons (pe_xf fE noE hz hf (pv 3)) pa_nil)) (pa_cons (pe_callB (call_isXdT TE hz hf) (by rfl) mi (by decide +kernel) (pa_cons (pv 3) (pa_cons (pe_tup (pa_cons (pe_glob (v := .ref Cr) rfl mR rfl) (pa_cons (pe_glob (v := .ref Cc) rfl mC rfl) pa_nil))) pa_nil))) pa_nil)))))) .nil))), ?_⟩
    refine ⟨_, rfl, _, rfl, _, rfl, g, ns, es, x, y, d, d2, rfl, G, ok, o, o2, len, len2, fun i hi dd H' hdd hx s1 => ?_, fun nb b hb v dd H' ov hdd hx s1 => ?_, fun nb nc => ?_⟩
    · rcases k with ⟨i', hi', k⟩ | ⟨nb, _⟩
      · rw [hi] at hi'
        obtain rfl := Option.some.inj hi'
        refine ⟨true, eRR, fun _ a ha => ?_, fun q => nomatch q⟩
        refine ⟨_, rfl, rfl, rfl, dd, _, _, rfl, hx, rfl, by show 2 ≤ sizeLine; decide, fun t ht => ?_⟩
        exact k t _ (s1.free ht) upd_same (s1.trans (Same.new ht))
      · rw [hi] at nb; cases nb
    · rcases k with ⟨i', hi', k⟩ | ⟨_, b', hb', ro, k⟩
      · rw [nb] at hi'; cases hi'
      rw [hb] at hb'
      obtain rfl := Option.some.inj hb'
      refine ⟨false, eER, (fun q => nomatch q), fun _ => ⟨true, eEE, fun _ a ha => ?_, fun q => nomatch q⟩⟩
      refine ⟨_, rfl, rfl, rfl, dd, _, _, rfl, hx, rfl, v, b, rfl, ov.dp ro.lay, ro.sho, PyData.hasDict_of_canLay _ ro.lay, ro.dep, ro.len, ?_⟩
      refine ⟨_, rfl, by show 2 ≤ sizeLine; decide, fun tp htp => ?_⟩
      refine ⟨tp, _, _, false, dd, _, rfl, rfl, rfl, Same.new htp _ _ hx, upd_same, .cons (.own _) (.cons (.own _) .nil), kE, by show 3 ≤ sizeLine; decide, fun t ht => ?_⟩
      have s2 := s1.trans (Same.new (o := .tup [.ref Cr, .ref Cc]) htp)
      exact k t _ (s2.free ht) upd_same (s2.trans (Same.new ht))
    · rcases k with ⟨i', hi', k⟩ | ⟨_, b', hb', ro, k⟩
      · rw [nb] at hi'; cases hi'
      · rw [nc] at hb'; cases hb'
end
end CP
/-! _law_subset -/
namespace CP
open PySem PySem.Spec PyProof.Rows L2
abbrev sSubset : Stmt := top 33
theorem But.sm {a : Addr} {H H1 H2 : Hp} (B : But a H H1) (s : Same H1 H2) : But a H H2 := B.trans (But.of_same s)
def spSubset : Sp := fun vs H Q _ => ∃ (a b : Addr) (xs : List V), vs = [.ref a, .ref b] ∧ Src H a ∧ a ≠ b ∧ H b = some (.lst xs) ∧ (∀ x ∈ xs, Item H x) ∧ xs.length < 1000 ∧
  ∀ p ys H', ys.Sublist xs → H p = none → H' p = some (.lst ys) → Src H' a → But a H H' → Q (.ref p) H'
section
variable {P : Program} {w : World} {K : PySem.W.Frag} {mg : Str → Option Value} {base : Heap}
abbrev nSubset : List Str := ["_law_source", "_law_items", "_law_way", "_law_item"]
theorem scSubset : FnScope nSubset ["_law_source", "_law_items"] (defScope sSubset) := ⟨rfl, rfl, rfl, by decide +kernel, rfl, by decide +kernel, by decide +kernel⟩
theorem ok_subset {f fN fO : Addr} {fd fdN fdO : FuncData} (F : Fun K "_law_subset" "_law_subset" sSubset f fd) (ml : mg "list" = none)
    (mN : mg "_law_next" = some (.ref fN)) (GN : FnOk P w K mg base CX0 1 fN fdN ["_law_source", "_law_many"] spNext) (kN : PySem.W.keepIn K (.ref fN) = true) (bN : Binds K fdN ["_law_source", "_law_many"] [])
    (mO : mg "_law_one" = some (.ref fO)) (GO : FnOk P w K mg base CX0 2 fO fdO ["_law_source", "_law_some"] (spOne K)) (kO : PySem.W.keepIn K (.ref fO) = true) (bO : Binds K fdO ["_law_source", "_law_some"] []) :
    FnOk P w K mg base CX0 3 f fd ["_law_source", "_law_items"] spSubset := by
  refine F.ok scSubset (fun vs H Q E h => ?_) (fun cdv A outer s H vs Q E hr h => ?_)
  · obtain ⟨a, b, xs, rfl, _⟩ := h; rfl
  · obtain ⟨a, b, xs, rfl, S0, ab, hb, it, few, k⟩ := h
    have hr1 : Room 1 _ := hr.mono (by decide)
    refine ⟨_, pss_cons (ps_set (i := 2) scSubset.nd rfl (Or.inl rfl) (pe_call GN hr1 rfl mN kN bN .nil pass0 (pa_cons (pv 0) (pa_cons pe_int pa_nil))))
      (pss_cons (ps_if (PW.pt (pw_or (pt_cmpR op_eq (pv 2) pe_int (nomark _)) (pw_or1 (pt_cmpR (op_eqD hr.units) (pv 1) (pe_lst pa_nil) (nomark _))))) (pss_one (ps_ret (pe_lst pa_nil))) pss_nil)
      (pss_cons (ps_if (pt_cmpR op_eq (pv 2) pe_int (nomark _)) (pss_one (ps_ret (pe_callTy call_list_of (by rfl) ml (by decide +kernel) (pa_cons (pv 1) pa_nil)))) pss_nil)
      (pss_cons (ps_if (pt_cmpR op_eq (pv 2) pe_int (nomark _)) (pss_one (ps_ret (pe_lst (pa_cons (pe_call GO hr rfl mO kO bO .nil pass0 (pa_cons (pv 0) (pa_cons (pv 1) pa_nil))) pa_nil)))) pss_nil)
      (pss_one (ps_ret (pe_lc (own := [("_law_item", 3)]) (g := gName 3) rfl scSubset.nd (pi_list (pv 1))
          (blkOk_by (own := [("_law_item", 3)]) (N := nSubset) (sc := defScope sSubset) (by decide +kernel))
          (fun _ _ _ _ _ => pg_name (i := 3) scSubset.nd rfl (Or.inl rfl)) (fun _ _ _ _ _ => pts_one (pt_cmpR op_eq (pe_call GN hr1 rfl mN kN bN .nil pass0 (pa_cons (pv 0) (pa_cons pe_int pa_nil))) pe_int (nomark _))) (fun _ _ _ _ _ => pv 3))))))), ?_⟩
    refine ⟨_, rfl, a, 5, rfl, S0, by decide, by decide, fun r H1 r0 r1 S1 B1 => ?_⟩
    have hb1 := B1 b _ ab.symm hb
    have it1 : ∀ x ∈ xs, Item H1 x := fun x hx => (it x hx).but S0 B1
    have nil0 : ∀ {H2 : Hp} {l : Addr}, But a H H2 → Src H2 a → H2 l = none → Q (.ref l) (L2.upd H2 l (.lst [])) := fun {H2 l} B S hl => k l [] _ (List.nil_sublist _) (B.none (S.ne hl) hl) upd_same (S.but (Same.new hl)) (B.sm (Same.new hl))
    refine ⟨_, rfl, rfl, _, rfl, ?_⟩
    cases c0 : decide (V.int r = V.int 0) with
    | true => exact iteT (iteT ⟨by show 0 ≤ sizeLine; decide, fun l hl => nil0 B1 S1 hl⟩)
    | false =>
      refine iteF ⟨_, rfl, by show 0 ≤ sizeLine; decide, fun q hq => ?_⟩
      have s2 : Same H1 (L2.upd H1 q (.lst [])) := Same.new hq
      have e2 : (L2.upd H1 q (.lst [])) q = some (.lst []) := upd_same
      generalize L2.upd H1 q (.lst []) = H2 at s2 e2 ⊢
      have S2 := S1.but s2
      have B2 := B1.sm s2
      have hb2 := s2 _ _ hb1
      obtain ⟨ds, d1, d2, d3, d4⟩ := items_dp (K := K) (fun x hx => (it1 x hx).but S1 (But.of_same s2))
      refine ⟨.list ds, .list [], .lst (SqL.of hb2) d1, .lst (SqL.of e2) .nil, ?_, by decide, _, rfl, ?_⟩
      · have c1 : (PyData.list ds).canLay0 = true := by simp [PyData.canLay0, d3]
        have c2 : (PyData.list ds).depth = PyData.depthAll ds + 1 := by first | rfl | simp [PyData.depth, Nat.add_comm]
        unfold SeqAt.shaped; rw [c1, c2]; simp; omega
      rw [eqv_nil]
      cases c1 : decide (ds = []) with
      | true => exact iteT ⟨by show 0 ≤ sizeLine; decide, fun l hl => nil0 B2 S2 hl⟩
      | false =>
        have xpos : 0 < xs.length := by
          have := of_decide_eq_false c1
          rw [← d2]
          cases ds with
          | nil => exact absurd rfl this
          | cons _ _ => simp
        refine iteF ⟨_, rfl, rfl, _, rfl, ?_⟩
        cases c2 : decide (V.int r = V.int 1) with
        | true =>
          refine iteT ⟨_, rfl, b, _, rfl, .inl (SqL.of hb2), fun l hl => ?_⟩
          exact k l xs _ (List.Sublist.refl _) (B2.none (S2.ne hl) hl) upd_same (S2.but (Same.new hl)) (B2.sm (Same.new hl))
        | false =>
          refine iteF ⟨_, rfl, rfl, _, rfl, ?_⟩
          cases c3 : decide (V.int r = V.int 2) with
          | true =>
            refine iteT ⟨_, rfl, _, rfl, a, b, xs, rfl, S2, ab, SqL.of hb2, hb2, xpos, by omega, fun x H3 hx S3 B3 => ⟨by show 1 ≤ sizeLine; decide, fun l hl => ?_⟩⟩
            have B03 := B2.trans B3
            exact k l [x] _ (List.singleton_sublist.mpr hx) (B03.none (S3.ne hl) hl) upd_same (S3.but (Same.new hl)) (B03.sm (Same.new hl))
          | false =>
            refine iteF ⟨_, rfl, b, rfl, ⟨_, SqL.of hb2⟩, fun D hD => lc_list (K := K) (a := b) (xs := xs) (fun j H' => But a H2 H' ∧ Src H' a ∧ ∃ ys, H' D = some (.lst ys) ∧ ys.Sublist (xs.take j))
              ⟨But.new hD, S2.but (Same.new hD), [], upd_same, List.nil_sublist _⟩ (fun j H' _ ⟨B, _⟩ => SqL.of (B b _ ab.symm hb2)) ?_ ?_⟩
            · rintro j y H3 hj ⟨B3, S3, ys, y1, y2⟩
              have lj : j < xs.length := (List.getElem?_eq_some_iff.mp hj).1
              have tk : xs.take (j + 1) = xs.take j ++ [y] := take_one hj
              have nD : D ≠ a := S2.ne hD
              refine ⟨rfl, _, rfl, a, 2, rfl, S3, by decide, by decide, fun r2 H4 _ _ S4 B4 => ⟨rfl, _, rfl, ?_⟩⟩
              have B34 := B3.trans B4
              have y4 := B4 D _ nD y1
              cases c4 : decide (V.int r2 = V.int 0) with
              | false => exact iteF ⟨B34, S4, ys, y4, by rw [tk]; exact y2.trans (List.sublist_append_left _ _)⟩
              | true =>
                have yl := y2.length_le
                rw [List.length_take] at yl
                refine iteT ⟨_, rfl, ys, y4, by rw [sizeLine_eq]; omega, fun c o n e => ?_, ?_, ys ++ [y], upd_same, by rw [tk]; exact y2.append (List.Sublist.refl _)⟩
                · rw [upd_ne (ne_of_none e hD)]; exact B34 c o n e
                · obtain ⟨x1, x2, x3, S4⟩ := S4
                  exact ⟨x1, x2, x3, by rw [upd_ne nD.symm]; exact S4⟩
            · rintro H3 ⟨B3, S3, ys, y1, y2⟩
              rw [List.take_length] at y2
              exact k D ys _ y2 (B2.none (S2.ne hD) hD) y1 S3 (B2.trans B3)
end
end CP
/-! _law_first_bad -/
namespace CP
open PySem PySem.Spec PyProof.Rows L2
abbrev sFirstBad : Stmt := top 35
/-- data that == can walk -/
def Fine (d : PyData) : Prop := d.canLay0 = true ∧ d.depth ≤ 4
theorem fine_all : ∀ {ds : List PyData}, (∀ d ∈ ds, Fine d) → PyData.canLayAll0 ds = true ∧ PyData.depthAll ds ≤ 4
  | [], _ => ⟨by simp [PyData.canLayAll0], by simp [PyData.depthAll]⟩
  | d :: ds, h => by
    obtain ⟨a, b⟩ := h d List.mem_cons_self
    obtain ⟨c, e⟩ := fine_all (ds := ds) fun x hx => h x (List.mem_cons_of_mem _ hx)
    refine ⟨by simp [PyData.canLayAll0, a, c], ?_⟩
    simp only [PyData.depthAll]; omega
theorem fine_shaped {d : PyData} (h : Fine d) : SeqAt.shaped d = true := by
  unfold SeqAt.shaped; rw [h.1]; have := h.2; simp; omega
theorem fines_shaped {ds : List PyData} (h : ∀ d ∈ ds, Fine d) : SeqAt.shaped (.list ds) = true := by
  obtain ⟨a, b⟩ := fine_all h
  have c1 : (PyData.list ds).canLay0 = true := by simp [PyData.canLay0, a]
  have c2 : (PyData.list ds).depth = PyData.depthAll ds + 1 := by first | rfl | simp [PyData.depth, Nat.add_comm]
  unfold SeqAt.shaped; rw [c1, c2]; simp; omega
theorem odTake {H : Hp} : ∀ {xs : List V} {ds : List PyData} (n : Nat), OdAll H xs ds → OdAll H (xs.take n) (ds.take n)
  | _, _, _, .nil => by simp; exact .nil
  | _, _, 0, .cons o t => .nil
  | _, _, n + 1, .cons o t => .cons o (odTake n t)
theorem odDrop {H : Hp} : ∀ {xs : List V} {ds : List PyData} (n : Nat), OdAll H xs ds → OdAll H (xs.drop n) (ds.drop n)
  | _, _, _, .nil => by simp; exact .nil
  | _, _, 0, .cons o t => .cons o t
  | _, _, n + 1, .cons o t => odDrop n t
theorem odApp {H : Hp} : ∀ {xs ys : List V} {ds es : List PyData}, OdAll H xs ds → OdAll H ys es → OdAll H (xs ++ ys) (ds ++ es)
  | _, _, _, _, .nil, h => h
  | _, _, _, _, .cons o t, h => .cons o (odApp t h)
theorem op_notInD2 {X : Cx} (K : PySem.W.Frag) (h : X.K = K) (hu : X.A.units + 65 < cLine) : OpR X (compareOp .NotIn) (rNotInD K) := h ▸ op_notInD hu
theorem op_inD2 {X : Cx} (K : PySem.W.Frag) (h : X.K = K) (hu : X.A.units + 65 < cLine) : OpR X (compareOp .In) (rInD K) := h ▸ op_inD hu
theorem sl_list2 {X : Cx} (K : PySem.W.Frag) (h : X.K = K) : SlR X (rSlL K) := h ▸ sl_list
theorem ed_enc {ns : List Str} {es : List E2} {d : PyData} (h : edB ns es d = true) : encE (edOf d) = d := by
  unfold edB at h; split at h
  · rfl
  · cases h
theorem ed_encs {ns : List Str} {es : List E2} : ∀ {ds : List PyData}, (∀ d ∈ ds, edB ns es d = true) → (ds.map edOf).map encE = ds
  | [], _ => rfl
  | d :: ds, h => by
    rw [List.map_cons, List.map_cons, ed_enc (h d List.mem_cons_self), ed_encs fun x hx => h x (List.mem_cons_of_mem _ hx)]
theorem any_E (e : E2) : ∀ es : List E2, ((es.map encE).any fun y => PyData.eqv y (encE e)) = decide (e ∈ es)
  | [] => by simp
  | f :: es => by
    rw [List.map_cons, List.any_cons, eqv_E, any_E e es]
    by_cases c : f = e
    · subst c; simp
    · have c2 : ¬ e = f := fun z => c z.symm
      by_cases q : e ∈ es <;> simp [c, c2, q]
/-- the law's own search: the texts of all bad items, the first of them first -/
def spFirstBad : Sp := fun vs H Q _ => ∃ (a b : Addr) (ns : List Str) (es : List E2) (ks : List Ed) (xs : List V) (ds : List PyData) (bd : PyData), vs = [.ref a, .ref b] ∧ H a = some (.lst xs) ∧ OdAll H xs ds ∧ (∀ d ∈ ds, Fine d) ∧ (∀ d ∈ ds, ReprOk d) ∧ ds.length < 200 ∧
  H b = some (.lst (ks.map fun p => V.ref p.1)) ∧ (∀ p ∈ ks, EdAt H p) ∧ (∀ p ∈ ks, OkE p.2) ∧ (∀ d, (((ks.map (·.2)).map encE).any fun z => PyData.eqv z d) = edB ns es d) ∧ badE ns es [] ds = some bd ∧ ∀ H', Same H H' → Q (.str bd.shown) H'
section
variable {P : Program} {w : World} {K : PySem.W.Frag} {mg : Str → Option Value} {base : Heap}
abbrev nFirstBad : List Str := ["_law_items", "_law_good", "_law_at", "_law_item"]
theorem scFirstBad : FnScope nFirstBad ["_law_items", "_law_good"] (defScope sFirstBad) := ⟨rfl, rfl, rfl, by decide +kernel, rfl, by decide +kernel, by decide +kernel⟩
theorem ok_firstbad {f : Addr} {fd : FuncData} (F : Fun K "_law_first_bad" "_law_first_bad" sFirstBad f fd) (me : mg "enumerate" = none) (mrp : mg "repr" = none) : FnG P w K mg base 1 f fd ["_law_items", "_law_good"] spFirstBad := by
  refine okG F scFirstBad (fun vs H Q E h => ?_) (fun cdv A outer s H vs Q E hr gds h => ?_)
  · obtain ⟨a, b, ns, es, ks, xs, ds, bd, rfl, _⟩ := h; rfl
  · obtain ⟨a, b, ns, es, ks, xs, ds, bd, rfl, ha, al, fine, ro, few, hb, hat, okE, an, hbd, k⟩ := h
    have hu65 := units65 hr
    have hun := hr.units
    refine ⟨_, pss_one (ps_ret (pe_ix ix_list (pe_lc (own := [("_law_at", 2), ("_law_item", 3)]) (g := gTup K 2 (gCons (gName 2) (gCons (gName 3) gNil))) rfl scFirstBad.nd (pi_enumS (by rfl) me (pa_cons (pv 0) pa_nil))
        (blkOk_by (own := [("_law_at", 2), ("_law_item", 3)]) (N := nFirstBad) (sc := defScope sFirstBad) (by decide +kernel))
        (fun _ _ _ _ _ => pg_tup rfl (pgs_cons (pg_name (i := 2) scFirstBad.nd rfl (Or.inl rfl)) (pgs_cons (pg_name (i := 3) scFirstBad.nd rfl (Or.inl rfl)) pgs_nil)))
        (fun _ _ _ _ _ => pts_one (PW.pt (pw_or (pt_cmpR (op_notInD2 K rfl hu65) (pv 3) (pv 1) rfl) (pw_or1 (pt_cmpR (op_inD2 K rfl hu65) (pv 3) (pe_slice (sl_list2 K rfl) (pv 0) po_none (po_some (pv 2))) rfl)))))
        (fun _ _ _ _ _ => pe_callB (call_reprV K rfl gds hun) (by rfl) mrp (by decide +kernel) (pa_cons (pv 3) pa_nil))) pe_int (fun _ _ => rfl))), ?_⟩
    have hrow : RowAt H a xs := .inl ha
    have hl := odLen al
    refine ⟨_, rfl, a, xs, rfl, hrow, fun J GG wk hG D hD => lc_it wk (fun i H' => Same H H' ∧ ∃ zs : List V, H' D = some (.lst zs) ∧ zs.length ≤ i ∧ ((zs = [] ∧ (∀ d ∈ ds.take i, edB ns es d = true) ∧ ∃ seen, (∀ k, k ∈ seen ↔ k ∈ (ds.take i).map edOf) ∧ badE ns es [] ds = badE ns es seen (ds.drop i)) ∨ zs[0]? = some (.str bd.shown)))
      ⟨Same.new hD, [], upd_same, Nat.le_refl _, .inl ⟨rfl, (fun d hd => by simp at hd), [], (fun k => by simp), rfl⟩⟩ (fun i H' _ ⟨s, _⟩ => hG _ (hrow.eq s)) ?_ ?_⟩
    · rintro i y Ha Hb hi ⟨sA, zs, z1, z2, z3⟩ ⟨tt, x1, x2, rfl, ht, rfl, e1, e3⟩
      obtain rfl : V.int (i : Nat) = x1 := Option.some.inj e1
      have e3 : xs[i]? = some x2 := e3
      obtain ⟨dy, hdy, oy⟩ := odAt al e3
      have sT : Same Ha (L2.upd Ha tt (.tup [.int (i : Nat), x2])) := Same.new ht
      have eT : (L2.upd Ha tt (.tup [.int (i : Nat), x2])) tt = some (.tup [.int (i : Nat), x2]) := upd_same
      generalize L2.upd Ha tt (.tup [.int (i : Nat), x2]) = Hb at sT eT ⊢
      have sH := sA.trans sT
      have mem := List.mem_of_getElem? hdy
      have fy := fine dy mem
      have ry := ro dy mem
      have hi200 : i < 200 := by have := (List.getElem?_eq_some_iff.mp hdy).1; omega
      -- the item is shown
      have showIt : ∀ {Hx : Hp}, Same Hb Hx → (zs = [] → badE ns es [] ds = some dy) → ∃ (v : V) (d : PyData), [x2] = [v] ∧ Dp K Hx v d ∧ d.showable = true ∧ d.hasDict = false ∧ d.depth ≤ 60 ∧ d.shown.length ≤ sizeLine ∧ ∃ acc, Hx D = some (.lst acc) ∧ acc.length < sizeLine ∧ (Same H (L2.upd Hx D (.lst (acc ++ [.str d.shown]))) ∧ ∃ ws : List V, L2.upd Hx D (.lst (acc ++ [.str d.shown])) D = some (.lst ws) ∧ ws.length ≤ i + 1 ∧ ((ws = [] ∧ (∀ d ∈ ds.take (i + 1), edB ns es d = true) ∧ ∃ seen, (∀ k, k ∈ seen ↔ k ∈ (ds.take (i + 1)).map edOf) ∧ badE ns es [] ds = badE ns es seen (ds.drop (i + 1))) ∨ ws[0]? = some (.str bd.shown))) := fun {Hx} sx first => by
        refine ⟨x2, dy, rfl, ((oy.same sH).same sx).dp ry.lay, ry.sho, PyData.hasDict_of_canLay _ ry.lay, ry.dep, ry.len, zs, sx _ _ (sT _ _ z1), by rw [sizeLine_eq]; omega, Same.grow hD (sH.trans sx), zs ++ [.str dy.shown], upd_same, by rw [List.length_append]; show zs.length + 1 ≤ i + 1; omega, .inr ?_⟩
        rcases z3 with ⟨rfl, _⟩ | z3
        · have := first rfl
          rw [hbd] at this
          obtain rfl := Option.some.inj this
          rfl
        · rw [List.getElem?_append_left (List.getElem?_eq_some_iff.mp z3).1]; exact z3
      refine ⟨tt, _, rfl, SqT.of eT, rfl, _, _, rfl, _, _, rfl, rfl, rfl, ?_⟩
      have dpB : Dp K Hb (.ref b) (.list ((ks.map (·.2)).map encE)) := by
        rw [List.map_map]; exact .lst (SqL.of (sH _ _ hb)) (dp_edges fun p hp => sH _ _ (hat p hp))
      refine ⟨_, rfl, _, rfl, dy, (ks.map (·.2)).map encE, (oy.same sH).dp fy.1, dpB, fine_shaped fy, eds_shapedL (fun e h => by obtain ⟨q, hq, rfl⟩ := List.mem_map.mp h; exact okE q hq), _, rfl, ?_⟩
      rw [an]
      cases c : edB ns es dy with
      | false =>
        refine iteT (iteT ⟨_, rfl, showIt (Same.refl _) fun ez => ?_⟩)
        rcases z3 with ⟨_, _, seen, sm, be⟩ | z3
        · have st := badE_step hdy be
          rw [c] at st; exact st
        · rw [ez] at z3; cases z3
      | true =>
        refine iteF ⟨_, rfl, _, rfl, _, rfl, _, rfl, a, xs, rfl, SqL.of (sH _ _ ha), fun q hq => ?_⟩
        rw [cut_take _ _ (by omega), Int.toNat_natCast]
        have s2 : Same Hb (L2.upd Hb q (.lst (xs.take i))) := Same.new hq
        have ft : ∀ d ∈ ds.take i, Fine d := fun d hd => fine d (List.mem_of_mem_take hd)
        have sH2 := sH.trans s2
        refine ⟨dy, ds.take i, (oy.same sH2).dp fy.1, .lst (SqL.of upd_same) (((odTake i al).same sH2).dp (fine_all ft).1), fine_shaped fy, fines_shaped ft, _, rfl, ?_⟩
        cases ca : (ds.take i).any fun z => PyData.eqv z dy with
        | true =>
          refine iteT ⟨_, rfl, showIt s2 fun ez => ?_⟩
          rcases z3 with ⟨_, good, seen, sm, be⟩ | z3
          · have h1 := any_E (edOf dy) ((ds.take i).map edOf)
            rw [ed_encs good, ed_enc c, ca] at h1
            have st := badE_step hdy be
            have inS : decide (edOf dy ∈ seen) = true := decide_eq_true ((sm _).mpr (of_decide_eq_true h1.symm))
            rw [c, inS] at st; exact st
          · rw [ez] at z3; cases z3
        | false =>
          refine iteF ⟨sH2, zs, s2 _ _ (sT _ _ z1), by omega, ?_⟩
          rcases z3 with ⟨ez, good, seen, sm, be⟩ | z3
          · have h1 := any_E (edOf dy) ((ds.take i).map edOf)
            rw [ed_encs good, ed_enc c, ca] at h1
            have nin : edOf dy ∉ (ds.take i).map edOf := of_decide_eq_false h1.symm
            have st := badE_step hdy be
            have inS : decide (edOf dy ∈ seen) = false := decide_eq_false fun z => nin ((sm _).mp z)
            rw [c, inS] at st
            have tk : ds.take (i + 1) = ds.take i ++ [dy] := take_one hdy
            refine .inl ⟨ez, fun d hd => ?_, edOf dy :: seen, fun kk => ?_, st⟩
            · rw [tk] at hd
              rcases List.mem_append.mp hd with hd | hd
              · exact good d hd
              · rw [List.mem_singleton.mp hd]; exact c
            · rw [tk, List.map_append, List.mem_append, List.mem_cons, sm]
              simp [or_comm]
          · exact .inr z3
    · rintro H1 ⟨s1, zs, z1, z2, z3⟩
      have hz : zs[0]? = some (.str bd.shown) := by
        rcases z3 with ⟨_, good, seen, sm, be⟩ | z3
        · rw [hl, List.drop_of_length_le (Nat.le_refl _), hbd] at be
          cases be
        · exact z3
      exact ⟨D, zs, _, _, rfl, rfl, SqL.of z1, atI_nat (j := 0) hz, k _ s1⟩
end
end CP
/-! t[::-1] of a pair -/
namespace CP
open PySem PySem.Spec PyProof.Rows L2
section
variable {prog : Program} {w : World} {A : Around} {E : Value → Shared → Prop} {s : Shared}
theorem rev2_applied {sl : Addr} {v1 v2 v3 : Value} {Q : Int × Int × Nat → Shared → Prop} (hs : s.heap.IsSliceOf sl v1 v2 v3) (p1 : IsPart v1 none) (p2 : IsPart v2 none) (p3 : IsPart v3 (some (-1))) (h : Q (1, -1, 2) s) :
    wpAny (model prog w) A (Builtin.Slice.sliceApplied (.ref sl) (pure ((2 : Nat) : Int))) Q E s := by
  obtain ⟨o, ho, hc, hd⟩ := id hs
  unfold Builtin.Slice.sliceApplied Builtin.Slice.sliceFields
  refine wpAny_bind (wpAny_bind (wpAny_field ho hd (x := v1) rfl (wpAny_bind (wpAny_field ho hd (x := v2) rfl (wpAny_bind (wpAny_field ho hd (x := v3) rfl (wpAny_pure ?_)))))))
  refine wpAny_bind (HT.slicePart_ p3 ?_)
  show wpAny _ _ (if ((-1 : Int) == 0) = true then _ else _) _ _ s
  rw [if_neg (by decide)]
  refine wpAny_bind (HT.slicePart_ p1 (wpAny_bind (HT.slicePart_ p2 (wpAny_bind (wpAny_pure ?_)))))
  exact wpAny_pure h
theorem getItem_rev2 {t sl : Addr} {x y v1 v2 v3 : Value} {Q : Value → Shared → Prop} (ht : IsTup s.heap t #[x, y]) (hs : s.heap.IsSliceOf sl v1 v2 v3) (p1 : IsPart v1 none) (p2 : IsPart v2 none) (p3 : IsPart v3 (some (-1)))
    (h : Q (.ref s.heap.objs.size) { s with heap := s.heap.push { cls := .type "tuple", data := .seq #[y, x] } }) : wpAny (model prog w) A (getItem (.ref t) (.ref sl)) Q E s := by
  have fit : sizeOk (.seq #[y, x]) := by show 2 ≤ sizeLine; decide
  obtain ⟨o, ho, hc, hd⟩ := id hs
  have tS : s.TypeIs (.ref sl) "slice" := ⟨o, ho, hc⟩
  unfold getItem
  try with_reducible refine wpAny_holding ?_
  first | refine wpAny_bind (wpAny_pure ?_) | skip
  refine wpAny_bind (wpAny_sequenceKey ht.typeIs (by decide) ?_)
  refine wpAny_bind (wpAny_callSpecial?_slot (name := Str.ofString "__getitem__") ht.typeIs slot_tuple_getitem (wpAny_call_entry slot_tuple_getitem ht.typeIs entry_tuple_getitem ?_ (args_tuple_getitem _ _)))
  show wpAny _ _ (Builtin.Tuple.tupleItemsOf (.ref t) >>= _) _ _ s
  refine wpAny_bind (tupleItemsOf_ ht (wpAny_bind (wpAny_typeOf tS ?_)))
  rw [if_pos (by decide)]
  refine wpAny_bind (rev2_applied hs p1 p2 p3 ?_)
  show wpAny _ _ (if (((1 : Int) == 0 && (-1 : Int) == 1 && (2 : Nat) == 2) = true) then _ else _) _ _ s
  rw [if_neg (by decide)]
  have e : ((List.range 2).filterMap fun (m : Nat) => (#[x, y] : Array Value)[((1 : Int) + (m : Int) * (-1)).toNat]?).toArray = #[y, x] := rfl
  rw [e]
  first
    | exact wpAny_bind (m := Builtin.Tuple.tupleExact _) (wpAny_newObj_type (wpAny_pure ⟨_, rfl, wpAny_pure h⟩) fit)
    | exact wpAny_bind (m := Builtin.Tuple.tupleExact _) (wpAny_newObj_type (wpAny_bind (wpAny_pure (wpAny_pure ⟨_, rfl, wpAny_pure h⟩))) fit)
    | exact wpAny_bind (wpAny_bind (m := Builtin.Tuple.tupleExact _) (wpAny_newObj_type (wpAny_pure (wpAny_pure ⟨_, rfl, wpAny_pure h⟩)) fit))
    | exact wpAny_bind (wpAny_bind (m := Builtin.Tuple.tupleExact _) (wpAny_newObj_type (wpAny_pure ⟨_, rfl, wpAny_pure h⟩) fit))
end
/-- t[::-1], t a pair -/
def tRev2 (te : TE) : TE := fun σ H Q => te σ H fun x H1 => ∃ a u v, x = .ref a ∧ H1 a = some (.tup [u, v]) ∧ ∀ p, H1 p = none → Q (.ref p) (L2.upd H1 p (.tup [v, u]))
theorem pe_rev2 {X : Cx} {e : Expr} {te : TE} {k : Nat} {p1 p2 p3 pos : Pos} (he : PE X e te) : PE X (.Subscript e (.Slice none none (some (.UnaryOp .USub (.Constant (.int 1) k p1) p2)) p3) pos) (tRev2 te) := by
  refine ⟨fun pins s σ H Q I h => Subscript_ (thn (he.run pins s σ H _ I h) fun v s1 ⟨x, H1, I1, r1, a, y, z, ex, hx, q⟩ => ?_)⟩
  subst ex
  cases r1
  have st : PO X (some (.UnaryOp .USub (.Constant (.int 1) k p1) p2)) (tPart (tUn (rU fun i => .int (-i)) (tC (.int 1)))) := po_some (pe_un un_neg pe_int)
  refine wpAny_Slice (thn (po_none.run pins s1 σ H1 (fun o H2 => o = none ∧ H2 = H1) I1 ⟨rfl, rfl⟩) fun v1 s2 ⟨o1, H2, I2, q1, eo1, e2⟩ => thn (po_none.run pins s2 σ H2 (fun o H3 => o = none ∧ H3 = H1) I2 ⟨rfl, e2⟩) fun v2 s3 ⟨o2, H3, I3, q2, eo2, e3⟩ => thn (st.run pins s3 σ H3 (fun o H4 => o = some (-1) ∧ H4 = H1) I3 ⟨1, rfl, -1, rfl, rfl, e3⟩) fun v3 s4 ⟨o3, H4, I4, q3, eo3, e4⟩ => ?_)
  subst eo1 eo2 eo3
  subst e4
  have I5 : L2.Inv X pins σ H4 { s4 with heap := s4.heap.push { cls := .type "slice", data := .fields #[v1, v2, v3] } } := I4.kept (t' := s4.toks) fun b ob z => Heap.get?_push_of_some _ z
  obtain ⟨its, r, ht, hz⟩ := I5.tuple (SqT.of hx)
  obtain ⟨u1, u2, rfl, ra, rb⟩ := vals2 r
  show wpAny _ _ (subscriptTail e (.Slice none none _ p3) (.ref a) (.ref s4.heap.objs.size)) _ _ _
  refine tail_any (ops := [.ref a, .ref s4.heap.objs.size]) ht.typeIs (slot_tuple_getitem.lookup) ?_ (by with_unfolding_all rfl)
  refine getItem_rev2 ht (Heap.IsSliceOf.new _ v1 v2 v3) q1 q2 q3 ?_
  exact ⟨.ref _, _, I5.laid (t' := s4.toks) (o := .tup [z, y]) (fun b ob q => Heap.get?_push_of_some _ q) (Nat.le_refl _) ⟨by show 2 ≤ sizeLine; decide, [u2, u1], .cons rb (.cons ra .nil), IsTup.new _ _⟩, rfl, q _ (I5.hok.fresh (Nat.le_refl _))⟩
end CP
/-! lemmas: data, the heap without the source, texts of data -/
namespace CP
open PySem PySem.Spec PyProof.Rows L2
theorem eqv_P (p q : E2 × E2) : PyData.eqv (pD p) (pD q) = decide (p = q) := by
  have h : PyData.eqv (pD p) (pD q) = (PyData.eqv (encE p.1) (encE q.1) && PyData.eqv (encE p.2) (encE q.2)) := by simp [pD, PyData.eqv, PyData.eqvAll]
  rw [h, eqv_E, eqv_E]
  obtain ⟨a, b⟩ := p; obtain ⟨c, d⟩ := q
  by_cases h1 : a = c <;> by_cases h2 : b = d <;> simp [h1, h2]
theorem any_P (k : E2 × E2) (ps : List (E2 × E2)) : ((ps.map pD).any fun z => PyData.eqv z (pD k)) = decide (k ∈ ps) := by
  rw [List.any_map]
  by_cases c : k ∈ ps
  · rw [decide_eq_true c]
    exact List.any_eq_true.mpr ⟨k, c, by show PyData.eqv (pD k) (pD k) = true; rw [eqv_P]; simp⟩
  · rw [decide_eq_false c]
    cases h : ps.any ((fun z => PyData.eqv z (pD k)) ∘ pD) with
    | false => rfl
    | true =>
      obtain ⟨q, hq, z⟩ := List.any_eq_true.mp h
      have z : PyData.eqv (pD q) (pD k) = true := z
      rw [eqv_P] at z
      exact absurd (of_decide_eq_true z ▸ hq) c
theorem eqv_str_any {x : Str} {d : PyData} (h : PyData.eqv (.str x) d = true) : d = .str x := by
  cases d <;> simp [PyData.eqv] at h
  rw [h]
theorem eqv_tup_any {ds : List PyData} {d : PyData} (h : PyData.eqv (.tuple ds) d = true) : ∃ es, d = .tuple es ∧ PyData.eqvAll ds es = true := by
  cases d <;> simp [PyData.eqv] at h
  exact ⟨_, rfl, h⟩
theorem eqvAll_two {a b : PyData} {es : List PyData} (h : PyData.eqvAll [a, b] es = true) : ∃ x y, es = [x, y] ∧ PyData.eqv a x = true ∧ PyData.eqv b y = true := by
  match es, h with
  | [x, y], h =>
    simp [PyData.eqvAll] at h
    exact ⟨x, y, rfl, h.1, h.2⟩
  | [], h => simp [PyData.eqvAll] at h
  | [_], h => simp [PyData.eqvAll] at h
  | _ :: _ :: _ :: _, h => simp [PyData.eqvAll] at h
theorem eqv_enc_any {e : E2} {d : PyData} (h : PyData.eqv (encE e) d = true) : d = encE e := by
  obtain ⟨es, rfl, h⟩ := eqv_tup_any h
  obtain ⟨x, y, rfl, h1, h2⟩ := eqvAll_two h
  rw [eqv_str_any h1, eqv_str_any h2]; rfl
theorem eqv_pD_any {p : E2 × E2} {d : PyData} (h : PyData.eqv (pD p) d = true) : d = pD p := by
  obtain ⟨es, rfl, h⟩ := eqv_tup_any h
  obtain ⟨x, y, rfl, h1, h2⟩ := eqvAll_two h
  rw [eqv_enc_any h1, eqv_enc_any h2]; rfl
theorem any_pr {ns : List Str} {es : List E2} (hs : AscE es) (eo : ∀ e ∈ es, EdOk ns e) (d : PyData) : (((pairsOf es).map pD).any fun z => PyData.eqv z d) = prB ns es d := by
  cases c : prB ns es d with
  | true =>
    have m := pr_has hs c
    have e : pD (ppOf d) = d := by
      unfold prB at c; split at c
      · rename_i a b
        simp only [Bool.and_eq_true] at c
        have enc : ∀ {x : PyData}, edB ns es x = true → encE (edOf x) = x := fun {x} hx => by
          unfold edB at hx; split at hx
          · rfl
          · cases hx
        show PyData.tuple [encE (edOf a), encE (edOf b)] = _
        rw [enc c.1, enc c.2.1]
      · cases c
    exact List.any_eq_true.mpr ⟨pD (ppOf d), List.mem_map.mpr ⟨_, m, rfl⟩, by rw [e]; rw [← e, eqv_P]; simp⟩
  | false =>
    cases h : ((pairsOf es).map pD).any fun z => PyData.eqv z d with
    | false => rfl
    | true =>
      obtain ⟨x, hx, q⟩ := List.any_eq_true.mp h
      obtain ⟨p, hp, rfl⟩ := List.mem_map.mp hx
      have := eqv_pD_any q
      subst this
      obtain ⟨m1, m2, ap⟩ := pairs_mem hp
      have lt := pairs_lt hs hp
      have ed : ∀ {f : E2}, f ∈ es → edB ns es (encE f) = true := fun {f} hf => by
        obtain ⟨b1, b2, b3⟩ := eo _ hf
        show ((decide (f.1 ∈ ns) && (decide (f.2 ∈ ns) && ltS f.1 f.2)) && decide ((f.1, f.2) ∈ es)) = true
        rw [decide_eq_true b1, decide_eq_true b2, b3, decide_eq_true (show (f.1, f.2) ∈ es from hf)]; rfl
      have : prB ns es (pD p) = true := by
        show (edB ns es (encE p.1) && (edB ns es (encE p.2) && (ltE p.1 p.2 && apB p.1 p.2))) = true
        rw [ed m1, ed m2, lt, ap]; rfl
      rw [this] at c; cases c
theorem rec_good {ns : List Str} {es : List E2} (asc : AscE es) (eo : ∀ e ∈ es, EdOk ns e) : ∀ {ps : List (E2 × E2)} {seen : List (E2 × E2)} {i : Nat}, ps.Nodup → (∀ p ∈ ps, p ∈ pairsOf es) → (∀ p ∈ ps, p ∉ seen) → badFrom ns es seen i (ps.map pD) = none
  | [], _, _, _, _, _ => rfl
  | p :: ps, seen, i, nd, sub, ns' => by
    obtain ⟨n1, n2⟩ := List.nodup_cons.mp nd
    have b : prB ns es (pD p) = true := by
      rw [← any_pr asc eo, any_P]; exact decide_eq_true (sub p List.mem_cons_self)
    have c : decide (ppOf (pD p) ∈ seen) = false := decide_eq_false (ns' p List.mem_cons_self)
    show (if (prB ns es (pD p) && !decide (ppOf (pD p) ∈ seen)) = true then badFrom ns es (ppOf (pD p) :: seen) (i + 1) (ps.map pD) else some i) = none
    rw [b, c]
    refine (if_pos rfl).trans (rec_good asc eo n2 (fun q hq => sub q (List.mem_cons_of_mem _ hq)) fun q hq z => ?_)
    rcases List.mem_cons.mp z with z | z
    · exact n1 ((show q = p from z) ▸ hq)
    · exact ns' q (List.mem_cons_of_mem _ hq) z
theorem recBad_list {ns : List Str} {es : List E2} (ds : List PyData) : recBad ns es (.list ds) = (badFrom ns es [] 0 ds).map fun i => (i : Int) := rfl
theorem okP_in {es : List E2} (okE : ∀ f ∈ es, OkE f) {p : E2 × E2} (h : p ∈ pairsOf es) : OkP p := ⟨okE _ (pairs_mem h).1, okE _ (pairs_mem h).2.1⟩
theorem if_k {t u : TS} {D : Ends} {σ : L2.St} {H : Hp} {b : Bool} (R : L2.St → Hp → Prop) (hk : ∀ σ' H', R σ' H' → D.nx σ' H') (h : (∀ σ' H', R σ' H' → D.nx σ' H') → (b = true → t D σ H) ∧ (b = false → u D σ H)) : if b = true then t D σ H else u D σ H := by
  obtain ⟨h1, h2⟩ := h hk
  cases b with
  | true => exact h1 rfl
  | false => exact h2 rfl
def hide (a : Addr) (H : Hp) : Hp := fun b => if b = a then none else H b
theorem hide_ne {a b : Addr} {H : Hp} (h : b ≠ a) : hide a H b = H b := if_neg h
theorem hide_some {a b : Addr} {H : Hp} {o : HO} (h : hide a H b = some o) : b ≠ a ∧ H b = some o := by
  unfold hide at h
  by_cases c : b = a
  · rw [if_pos c] at h; cases h
  · rw [if_neg c] at h; exact ⟨c, h⟩
theorem But.hide {a : Addr} {H H' : Hp} (B : But a H H') : Same (hide a H) (hide a H') := fun b o e => by
  obtain ⟨n, e⟩ := hide_some e
  rw [hide_ne n]; exact B b o n e
theorem hide_same {a : Addr} {H : Hp} : Same (hide a H) H := fun b o e => (hide_some e).2
theorem hide_at {a p : Addr} {H : Hp} {o : HO} (n : p ≠ a) (h : H p = some o) : hide a H p = some o := by rw [hide_ne n]; exact h
theorem to_hide {p : Addr} {H : Hp} : But p H (hide p H) := fun b o n e => hide_at n e
theorem cut_dropN (xs : List V) (i : Nat) : cutV xs (some (i : Int)) none = xs.drop i := by
  unfold cutV
  rw [HT.sIx_nat, HT.sIx_none]
  by_cases c : i ≤ xs.length
  · rw [Nat.min_eq_left c, List.take_of_length_le (by rw [List.length_drop]; exact Nat.le_refl _)]
  · rw [Nat.min_eq_right (by omega), List.drop_of_length_le (by omega : xs.length ≤ i), List.drop_length]; simp
theorem GrAt.but {C a : Addr} {H H' : Hp} {g : Addr} {ns : List Str} {es : List Ed} (S : Src H a) (B : But a H H') (G : GrAt C H g ns es) : GrAt C H' g ns es := by
  obtain ⟨⟨dx, t1, t2, e1, e2, e3⟩, ed⟩ := G
  obtain ⟨x, y, z, q⟩ := id S
  exact ⟨⟨dx, t1, t2, B _ _ (ne_of e1 q (fun z => by cases z)) e1, B _ _ (ne_of e2 q (fun z => by cases z)) e2, B _ _ (ne_of e3 q (fun z => by cases z)) e3⟩, fun p hp => EdAt.but S B (ed p hp)⟩
theorem Same.but {a : Addr} {H0 H H' : Hp} (s : Same H0 H) (h : H0 a = none) (B : But a H H') : Same H0 H' := fun c o e => B c o (ne_of_none e h) (s c o e)
theorem ArgsOk.same {H H' : Hp} {a b : Addr} {ns : List Str} {ks : List Ed} (A : ArgsOk H a b ns ks) (s : Same H H') : ArgsOk H' a b ns ks :=
  ⟨s _ _ A.na, A.n0, A.n8, A.nd, A.nm, s _ _ A.ea, fun p hp => s _ _ (A.ed p hp), A.eo, A.en, A.el⟩
theorem ArgsOk.but {H H' : Hp} {p a b : Addr} {ns : List Str} {ks : List Ed} (A : ArgsOk H a b ns ks) (S : Src H p) (na : a ≠ p) (nb : b ≠ p) (B : But p H H') : ArgsOk H' a b ns ks :=
  ⟨B _ _ na A.na, A.n0, A.n8, A.nd, A.nm, B _ _ nb A.ea, fun q hq => EdAt.but S B (A.ed q hq), A.eo, A.en, A.el⟩
theorem PrsAt.but {H H' : Hp} {p l : Addr} {ps : List (E2 × E2)} (h : PrsAt H l ps) (S : Src H p) (nl : l ≠ p) (B : But p H H') : PrsAt H' l ps := by
  obtain ⟨qs, a, b, c⟩ := h
  obtain ⟨x, y, z, q⟩ := id S
  exact ⟨qs, B _ _ nl a, fun r hr => ⟨B _ _ (ne_of (b r hr).ob q (fun z => by cases z)) (b r hr).ob, EdAt.but S B (b r hr).one, EdAt.but S B (b r hr).two⟩, c⟩
theorem od_edge {H : Hp} {p : Ed} (h : EdAt H p) : Od H (.ref p.1) (encE p.2) := .tup h (.cons (.str _) (.cons (.str _) .nil))
theorem od_pairs {H : Hp} : ∀ {qs : List Pr}, (∀ q ∈ qs, PrAt H q) → OdAll H (qs.map fun q => V.ref q.1) ((qs.map prV).map pD)
  | [], _ => .nil
  | q :: qs, h => .cons (.tup (h q List.mem_cons_self).ob (.cons (od_edge (h q List.mem_cons_self).one) (.cons (od_edge (h q List.mem_cons_self).two) .nil))) (od_pairs fun x hx => h x (List.mem_cons_of_mem _ hx))
theorem PrsAt.od {H : Hp} {l : Addr} {ps : List (E2 × E2)} (h : PrsAt H l ps) : Od H (.ref l) (.list (ps.map pD)) := by
  obtain ⟨qs, a, b, rfl⟩ := h
  exact .lst a (od_pairs b)
theorem pp_pD (p : E2 × E2) : ppOf (pD p) = p := rfl
theorem pps (ps : List (E2 × E2)) : (ps.map pD).map ppOf = ps := by rw [List.map_map]; exact List.map_id _
theorem pairs_len : ∀ es : List E2, 2 * (pairsOf es).length + es.length ≤ es.length * es.length
  | [] => by decide
  | e :: es => by
    have ih := pairs_len es
    rw [pairsOf_cons, List.length_append, List.length_map, List.length_cons]
    have f := List.length_filter_le (apB e) es
    have : (es.length + 1) * (es.length + 1) = es.length * es.length + 2 * es.length + 1 := by rw [Nat.add_mul, Nat.mul_add]; omega
    omega
theorem pairs_few {es : List E2} (h : es.length ≤ 18) : (pairsOf es).length ≤ 153 := by
  have a := pairs_len es
  have : es.length * es.length ≤ 17 * es.length + es.length := by
    have : es.length * es.length ≤ 18 * es.length := Nat.mul_le_mul_right _ h
    omega
  have : 2 * (pairsOf es).length ≤ 17 * es.length := by omega
  omega
theorem asc_sort {ks : List Ed} (nd : (ks.map (·.2)).Nodup) : AscE ((sortE ks).map (·.2)) := List.pairwise_map.mpr (sortE_lt nd)
theorem perm_sort (ks : List Ed) : (ks.map (·.2)).Perm ((sortE ks).map (·.2)) := ((sortE_perm ks).map (·.2)).symm
theorem edB_perm {ns : List Str} {es fs : List E2} (h : es.Perm fs) (d : PyData) : edB ns es d = edB ns fs d := by
  unfold edB; split
  · rw [decide_eq_decide.mpr (h.mem_iff)]
  · rfl
theorem prs_fine {p : E2 × E2} (h : OkP p) : Fine (pD p) := ⟨pD_lay h, by rw [pD_depth]; decide⟩
theorem sum_shown {B : Nat} : ∀ {ds : List PyData}, (∀ d ∈ ds, d.shown.length ≤ B) → ((PyData.shownAll ds).map (·.length)).sum ≤ B * ds.length
  | [], _ => by simp [PyData.shownAll]
  | d :: ds, h => by
    have a := h d List.mem_cons_self
    have b := sum_shown (ds := ds) fun x hx => h x (List.mem_cons_of_mem _ hx)
    simp only [PyData.shownAll, List.map_cons, List.sum_cons, List.length_cons]
    rw [Nat.mul_add]; omega
theorem shown_list {B : Nat} {ds : List PyData} (h : ∀ d ∈ ds, d.shown.length ≤ B) : (PyData.list ds).shown.length ≤ (B + 2) * ds.length + 3 := by
  have a := listText_len_le (PyData.shownAll ds)
  have b := sum_shown h
  have c := PyData.shownAll_length ds
  have e : (PyData.list ds).shown = listText (PyData.shownAll ds) := by first | rfl | simp [PyData.shown]
  rw [e, Nat.add_mul]; rw [c] at a; omega
theorem shown_tup {B : Nat} {ds : List PyData} (h : ∀ d ∈ ds, d.shown.length ≤ B) : (PyData.tuple ds).shown.length ≤ (B + 2) * ds.length + 3 := by
  have a := tupleText_len_le (PyData.shownAll ds)
  have b := sum_shown h
  have c := PyData.shownAll_length ds
  have e : (PyData.tuple ds).shown = tupleText (PyData.shownAll ds) := by first | rfl | simp [PyData.shown]
  rw [e, Nat.add_mul]; rw [c] at a; omega
theorem name_len : ∀ z ∈ base8, (PyData.str z).shown.length ≤ 10 := by decide +kernel
theorem two_len {x y : PyData} {B : Nat} (hx : x.shown.length ≤ B) (hy : y.shown.length ≤ B) : (PyData.tuple [x, y]).shown.length ≤ 2 * B + 7 := by
  have := shown_tup (B := B) (ds := [x, y]) (fun d hd => by
    simp only [List.mem_cons, List.not_mem_nil, or_false] at hd
    rcases hd with rfl | rfl
    · exact hx
    · exact hy)
  have e : [x, y].length = 2 := rfl
  rw [e] at this; omega
theorem enc_len {e : E2} (h1 : e.1 ∈ base8) (h2 : e.2 ∈ base8) : (encE e).shown.length ≤ 27 := two_len (name_len _ h1) (name_len _ h2)
theorem show_row : ∀ {ds : List PyData}, (∀ d ∈ ds, d.showable = true) → PyData.showableAll ds = true
  | [], _ => by simp [PyData.showableAll]
  | d :: ds, h => by simp [PyData.showableAll, h d List.mem_cons_self, show_row fun x hx => h x (List.mem_cons_of_mem _ hx)]
theorem pD_show (p : E2 × E2) : (pD p).showable = true := by simp [pD, encE, PyData.showable, PyData.showableAll]
def rCatL (K : PySem.W.Frag) : R2 := fun x y H Q => ∃ l b xs zs, x = .ref l ∧ y = .ref b ∧ SqL K H l xs ∧ SqL K H b zs ∧ xs.length + zs.length ≤ sizeLine ∧ ∀ p, H p = none → Q (.ref p) (L2.upd H p (.lst (xs ++ zs)))
theorem op_catL {X : Cx} : OpR X (binaryOp .Add) (rCatL X.K) := by
  intro pins s σ H x y v u Q I rx ry h
  obtain ⟨l, b, xs, zs, rfl, rfl, hl, hb, hz, q⟩ := h
  cases rx
  cases ry
  obtain ⟨vs, r, ⟨⟨c1, d1, da1, s1⟩, n1, g1, hc1, hd1, hda1⟩, z1⟩ := I.list hl
  obtain ⟨ws, r2, ⟨⟨c2, d2, da2, s2⟩, n2, g2, hc2, hd2, hda2⟩, z2⟩ := I.list hb
  simp only at hc1 hda1 hc2 hda2
  subst hc1 hda1 hc2 hda2
  have lv := r.length
  have lw := r2.length
  refine concat_meets ⟨_, g1, rfl⟩ ⟨_, g2, rfl⟩ noFill_list_add seq_list_add PySem.F.slot_list_add PySem.F.entry_list_add (PySem.F.args_list_add_2 _ _)
    (list_addW l b vs.toArray ws.toArray n1 n2 d1 d2 s1 s2 (by rw [List.size_toArray, List.size_toArray]; omega)) ⟨g1, g2, ?_⟩
  have e : vs.toArray ++ ws.toArray = (vs ++ ws).toArray := by simp
  rw [e]
  exact ⟨.ref _, _, I.lnew (t' := s.toks) (r.append r2) (by rw [List.length_append]; omega), rfl, q _ I.fresh⟩
theorem pD_shaped {p : E2 × E2} (h : OkP p) : SeqAt.shaped (pD p) = true := by
  have := pD_depth p
  unfold SeqAt.shaped; rw [pD_lay h, this]; simp
theorem pr_enc {ns : List Str} {es : List E2} {d : PyData} (c : prB ns es d = true) : pD (ppOf d) = d := by
  unfold prB at c; split at c
  · rename_i a b
    simp only [Bool.and_eq_true] at c
    have enc : ∀ {x : PyData}, edB ns es x = true → encE (edOf x) = x := fun {x} hx => by
      unfold edB at hx; split at hx
      · rfl
      · cases hx
    show PyData.tuple [encE (edOf a), encE (edOf b)] = _
    rw [enc c.1, enc c.2.1]
  · cases c
/-- a value is an edge exactly if it is in the list of the edges -/
theorem any_ed {ns : List Str} {es ks : List E2} (eo : ∀ e ∈ es, EdOk ns e) (pm : ks.Perm es) (d : PyData) : ((ks.map encE).any fun z => PyData.eqv z d) = edB ns es d := by
  cases c : edB ns es d with
  | true =>
    have m := pm.mem_iff.mpr (edB_in c)
    have h := any_E (edOf d) ks
    rw [ed_enc c] at h
    rw [h]; exact decide_eq_true m
  | false =>
    cases h : (ks.map encE).any fun z => PyData.eqv z d with
    | false => rfl
    | true =>
      obtain ⟨z, hz, q⟩ := List.any_eq_true.mp h
      obtain ⟨e, he, rfl⟩ := List.mem_map.mp hz
      have ed := eqv_enc_any q
      obtain ⟨a, b, l⟩ := eo e (pm.mem_iff.mp he)
      rw [ed] at c
      have c : ((decide (e.1 ∈ ns) && (decide (e.2 ∈ ns) && ltS e.1 e.2)) && decide ((e.1, e.2) ∈ es)) = false := c
      rw [decide_eq_true a, decide_eq_true b, l, decide_eq_true (show (e.1, e.2) ∈ es from pm.mem_iff.mp he)] at c
      cases c
theorem badE_some {ns : List Str} {es : List E2} : ∀ {ds : List PyData} {seen : List E2}, PyData.none ∈ ds → ∃ b, badE ns es seen ds = some b ∧ b ∈ ds
  | [], _, h => nomatch h
  | d :: ds, seen, h => by
    unfold badE
    split
    · rename_i c
      rcases List.mem_cons.mp h with rfl | h
      · cases c
      · obtain ⟨b, e, m⟩ := badE_some (seen := edOf d :: seen) h
        exact ⟨b, e, List.mem_cons_of_mem _ m⟩
    · exact ⟨d, rfl, List.mem_cons_self⟩
/-- data that can be compared and shown -/
structure OkD (d : PyData) : Prop where
  fine : Fine d
  rep : ReprOk d
  txt : PyData.strOk d.shown = true
theorem okD_of {d : PyData} (h1 : d.canLay0 = true) (h2 : d.depth ≤ 4) (h3 : d.showable = true) (h4 : d.shown.length ≤ 1000) (h5 : PyData.strOk d.shown = true) : OkD d := ⟨⟨h1, h2⟩, ⟨h1, h3, by omega, by rw [sizeLine_eq]; omega⟩, h5⟩
theorem edge_txt : ∀ u ∈ base8, ∀ v ∈ base8, PyData.strOk (PyData.tuple [.str u, .str v]).shown = true := by decide +kernel
theorem list_txt : ∀ u ∈ base8, ∀ v ∈ base8, PyData.strOk (PyData.list [.str u, .str v]).shown = true := by decide +kernel
theorem base8_str {z : Str} (h : z ∈ base8) : PyData.strOk z = true := (base8_ok z h).strOk
theorem okD_edge {u v : Str} (h1 : u ∈ base8) (h2 : v ∈ base8) : OkD (.tuple [.str u, .str v]) :=
  okD_of (encE_lay (e := (u, v)) ⟨base8_str h1, base8_str h2⟩) (by simp [PyData.depth, PyData.depthAll]) (by simp [PyData.showable, PyData.showableAll]) (Nat.le_trans (enc_len (e := (u, v)) h1 h2) (by decide)) (edge_txt u h1 v h2)
theorem okD_list {u v : Str} (h1 : u ∈ base8) (h2 : v ∈ base8) : OkD (.list [.str u, .str v]) := by
  refine okD_of (by simp [PyData.canLay0, PyData.canLayAll0, base8_str h1, base8_str h2]) (by simp [PyData.depth, PyData.depthAll]) (by simp [PyData.showable, PyData.showableAll]) ?_ (list_txt u h1 v h2)
  have := shown_list (B := 10) (ds := [.str u, .str v]) (fun d hd => by
    simp only [List.mem_cons, List.not_mem_nil, or_false] at hd
    rcases hd with rfl | rfl
    · exact name_len _ h1
    · exact name_len _ h2)
  have e : [PyData.str u, .str v].length = 2 := rfl
  rw [e] at this; omega
theorem okD_consts : OkD .none ∧ OkD (.int 5) ∧ OkD (.str "ab") ∧ OkD (.tuple [.str "a", .str "nobody"]) ∧ OkD (.list []) ∧ OkD (.tuple [.str "a"]) ∧ OkD (.tuple []) := by
  refine ⟨okD_of ?_ ?_ ?_ ?_ ?_, okD_of ?_ ?_ ?_ ?_ ?_, okD_of ?_ ?_ ?_ ?_ ?_, okD_of ?_ ?_ ?_ ?_ ?_, okD_of ?_ ?_ ?_ ?_ ?_, okD_of ?_ ?_ ?_ ?_ ?_, okD_of ?_ ?_ ?_ ?_ ?_⟩
  all_goals decide +kernel
theorem od_mem {H : Hp} : ∀ {xs : List V} {ds : List PyData} {x : V}, OdAll H xs ds → x ∈ xs → ∃ d ∈ ds, Od H x d
  | _, _, _, .nil, h => nomatch h
  | _, _, x, .cons o al, h => by
    rcases List.mem_cons.mp h with rfl | h
    · exact ⟨_, List.mem_cons_self, o⟩
    · obtain ⟨d, m, o⟩ := od_mem al h
      exact ⟨d, List.mem_cons_of_mem _ m, o⟩
def OddIn (p : Addr) (H : Hp) (x : V) : Prop := ∃ d, Od (hide p H) x d ∧ OkD d
theorem OddIn.but {p : Addr} {H H' : Hp} {x : V} (h : OddIn p H x) (B : But p H H') : OddIn p H' x := let ⟨d, o, k⟩ := h; ⟨d, o.same (But.hide B), k⟩
theorem OddIn.same {p : Addr} {H H' : Hp} {x : V} (h : OddIn p H x) (s : Same H H') : OddIn p H' x := h.but (But.of_same s)
theorem oddAll {p : Addr} {H : Hp} : ∀ {xs : List V}, (∀ x ∈ xs, OddIn p H x) → ∃ ds, OdAll (hide p H) xs ds ∧ ∀ d ∈ ds, OkD d
  | [], _ => ⟨[], .nil, fun _ z => nomatch z⟩
  | x :: xs, h => by
    obtain ⟨d, o, k⟩ := h x List.mem_cons_self
    obtain ⟨ds, al, ks⟩ := oddAll fun y hy => h y (List.mem_cons_of_mem _ hy)
    refine ⟨d :: ds, .cons o al, fun y hy => ?_⟩
    rcases List.mem_cons.mp hy with rfl | hy
    · exact k
    · exact ks y hy
theorem oddEdge {p : Addr} {H : Hp} {q : Ed} (S : Src H p) (h : EdAt H q) (h1 : q.2.1 ∈ base8) (h2 : q.2.2 ∈ base8) : OddIn p H (.ref q.1) := by
  obtain ⟨x1, x2, x3, e⟩ := S
  exact ⟨_, .tup (hide_at (ne_of h e (fun z => by cases z)) h) (.cons (.str _) (.cons (.str _) .nil)), okD_edge h1 h2⟩
end CP
/-! _law_errors_right -/
namespace CP
open PySem PySem.Spec PyProof.Rows L2
abbrev sErrR : Stmt := top 36
def rListOf (K : PySem.W.Frag) : List V → Hp → VK → Prop := fun xs H Q => ∃ p ys, xs = [.ref p] ∧ (SqL K H p ys ∨ SqT K H p ys) ∧ ∀ l, H l = none → Q (.ref l) (L2.upd H l (.lst ys))
theorem call_list2 {X : Cx} (K : PySem.W.Frag) (h : X.K = K) : CallR X (.type "list") (rListOf K) := by subst h; exact call_list_of
def spErrR (C : Addr) : Sp := fun vs H Q _ => ∃ (p g e rc sm : Addr) (ns : List Str) (ks js : List Ed) (ps : List (E2 × E2)), vs = [.ref p, .ref g, .ref rc, .ref e, .ref sm] ∧ Src H p ∧ e ≠ p ∧ rc ≠ p ∧ sm ≠ p ∧ H e = some (.lst (ks.map fun q => V.ref q.1)) ∧ (∀ q ∈ ks, EdAt H q) ∧ (ks.map (·.2)).Nodup ∧ GrAt C H g ns (sortE ks) ∧ GOk ns ((sortE ks).map (·.2)) ∧ (∀ z ∈ ns, z ∈ base8) ∧
  PrsAt H rc ps ∧ ps.Nodup ∧ (∀ q ∈ ps, q ∈ pairsOf ((sortE ks).map (·.2))) ∧ H sm = some (.lst (js.map fun q => V.ref q.1)) ∧ (∀ q ∈ js, q ∈ ks) ∧ js.length ≤ 18 ∧ ∀ H', Src H' p → But p H H' → Q (.bl true) H'
theorem dp_tup2 {K : PySem.W.Frag} {H : Hp} {t : Addr} {i : Int} {z : Str} (h : H t = some (.tup [.str z, .int i])) : Dp K H (.ref t) (.tuple [.str z, .int i]) := .tup (SqT.of h) (.cons (.str _) (.cons (.int _) .nil))
theorem dp_tup3 {K : PySem.W.Frag} {H : Hp} {t : Addr} {z y : Str} {b : Bool} (h : H t = some (.tup [.str z, .str y, .bl b])) : Dp K H (.ref t) (.tuple [.str z, .str y, .bool b]) := .tup (SqT.of h) (.cons (.str _) (.cons (.str _) (.cons (.bl _) .nil)))
theorem eqv_tup3 (z y : Str) (b : Bool) : PyData.eqv (.tuple [.str z, .str y, .bool b]) (.tuple [.str z, .str y, .bool b]) = true := PySem.W.eqv_refl_alike _ (by simp [PySem.W.alike, PySem.W.alikeAll])
/-- the text of data is a text -/
theorem shaped3 {z y : Str} {b : Bool} (h1 : PyData.strOk z = true) (h2 : PyData.strOk y = true) : SeqAt.shaped (.tuple [.str z, .str y, .bool b]) = true := by
  unfold SeqAt.shaped
  have c1 : (PyData.tuple [.str z, .str y, .bool b]).canLay0 = true := by simp [PyData.canLay0, PyData.canLayAll0, h1, h2]
  rw [c1]; simp [PyData.depth, PyData.depthAll]
section
variable {P : Program} {w : World} {K : PySem.W.Frag} {mg : Str → Option Value} {base : Heap}
abbrev pErrR : List Str := ["_law_source", "_law_graph_here", "_law_record", "_law_edges", "_law_some"]
abbrev nErrR : List Str := ["_law_source", "_law_graph_here", "_law_record", "_law_edges", "_law_some", "_law_odd", "_law_at", "_law_bad", "_law_value", "_law_edge"]
theorem scErrR : FnScope nErrR pErrR (defScope sErrR) := ⟨rfl, rfl, rfl, by decide +kernel, rfl, by decide +kernel, by decide +kernel⟩
theorem ok_errR {f fN fO fT fB C : Addr} {fd fdN fdO fdT fdB : FuncData} (F : Fun K "_law_errors_right" "_law_errors_right" sErrR f fd) (ml : mg "len" = none) (mlist : mg "list" = none) (mdict : mg "dict" = none)
    (mN : mg "_law_next" = some (.ref fN)) (GN : FnOk P w K mg base CX0 1 fN fdN ["_law_source", "_law_many"] spNext) (kN : PySem.W.keepIn K (.ref fN) = true) (bN : Binds K fdN ["_law_source", "_law_many"] [])
    (mO : mg "_law_one" = some (.ref fO)) (GO : FnOk P w K mg base CX0 2 fO fdO ["_law_source", "_law_some"] (spOne K)) (kO : PySem.W.keepIn K (.ref fO) = true) (bO : Binds K fdO ["_law_source", "_law_some"] [])
    (mT : mg "_law_told" = some (.ref fT)) (GT : FnG P w K mg base 7 fT fdT pTold (spTold C)) (kT : PySem.W.keepIn K (.ref fT) = true) (bT : Binds K fdT pTold [])
    (mB : mg "_law_first_bad" = some (.ref fB)) (GB : FnG P w K mg base 1 fB fdB ["_law_items", "_law_good"] spFirstBad) (kB : PySem.W.keepIn K (.ref fB) = true) (bB : Binds K fdB ["_law_items", "_law_good"] []) :
    FnG P w K mg base 8 f fd pErrR (spErrR C) := by
  refine okG F scErrR (fun vs H Q E h => ?_) (fun cdv A outer s H vs Q E hr gds h => ?_)
  · obtain ⟨p, g, e, rc, sm, ns, ks, js, ps, rfl, _⟩ := h; rfl
  · obtain ⟨p, g, e, rc, sm, ns, ks, js, ps, rfl, S0, ep, rp, smp, hE, hEd, nd, G0, ok, n8, R0, rnd, sub, hS, jin, jl, k⟩ := h
    have hr1 : Room 1 _ := hr.mono (by decide)
    have hr2 : Room 2 _ := hr.mono (by decide)
    refine ⟨_, pss_cons (ps_set (i := 5) scErrR.nd rfl (Or.inl rfl) (pe_op op_cat (pe_op op_cat (pe_lst (pa_cons pe_non (pa_cons pe_int (pa_cons pe_str (pa_cons (pe_tup (pa_cons pe_str (pa_cons pe_str pa_nil))) (pa_cons (pe_lst pa_nil) (pa_cons (pe_tup (pa_cons pe_str pa_nil)) (pa_cons (pe_tup pa_nil) pa_nil))))))))
          (pe_lc (own := [("_law_edge", 9)]) (g := gName 9) (tt := tYes) rfl scErrR.nd (pi_list (pe_slice sl_list (pv 3) po_none (po_some pe_int))) (blkOk_by (own := [("_law_edge", 9)]) (N := nErrR) (sc := defScope sErrR) (by decide +kernel))
            (fun _ _ _ _ _ => pg_name (i := 9) scErrR.nd rfl (Or.inl rfl)) (fun _ _ _ _ _ => pts_nil) (fun _ _ _ _ _ => pe_rev2 (pv 9)))) (pe_slice sl_list (pv 4) po_none (po_some pe_int))))
      (pss_cons (ps_set (i := 5) scErrR.nd rfl (Or.inl rfl) (pe_op op_cat (pv 5) (pe_lc (own := [("_law_edge", 9)]) (g := gName 9) (tt := tYes) rfl scErrR.nd (pi_list (pe_slice sl_list (pv 3) po_none (po_some pe_int))) (blkOk_by (own := [("_law_edge", 9)]) (N := nErrR) (sc := defScope sErrR) (by decide +kernel))
            (fun _ _ _ _ _ => pg_name (i := 9) scErrR.nd rfl (Or.inl rfl)) (fun _ _ _ _ _ => pts_nil) (fun _ _ _ _ _ => pe_callTy (call_list2 K rfl) (by rfl) mlist (by decide +kernel) (pa_cons (pv 9) pa_nil)))))
      (pss_cons (ps_set (i := 6) scErrR.nd rfl (Or.inl rfl) (pe_call GN hr1 rfl mN kN bN .nil pass0 (pa_cons (pv 0) (pa_cons (pe_op op_add (pe_callB call_len_seq (by rfl) ml PySem.boot_len (pa_cons (pv 4) pa_nil)) pe_int) pa_nil))))
      (pss_cons (ps_set (i := 7) scErrR.nd rfl (Or.inl rfl) (pe_op op_cat (pe_op op_cat (pe_op op_cat (pe_slice sl_list (pv 4) po_none (po_some (pv 6))) (pe_lst (pa_cons (pe_call GO hr2 rfl mO kO bO .nil pass0 (pa_cons (pv 0) (pa_cons (pv 5) pa_nil))) pa_nil))) (pe_slice sl_list (pv 4) (po_some (pv 6)) po_none)) (pe_lst (pa_cons pe_non pa_nil))))
      (pss_cons (ps_if (pt_cmpR (op_neD hr.units) (pe_callG GT hr gds rfl mT kT bT (pa_cons (pv 1) (pa_cons (pv 2) (pa_cons (pv 7) pa_nil)))) (pe_tup (pa_cons pe_str (pa_cons (pe_callG GB hr1 gds rfl mB kB bB (pa_cons (pv 7) (pa_cons (pv 3) pa_nil))) (pa_cons pe_bl pa_nil)))) (nomark _)) (pss_one (ps_ret pe_bl)) pss_nil)
      (pss_cons (ps_for PassesOwn.never rfl (pi_tup (pe_tup (pa_cons pe_non (pa_cons pe_int (pa_cons pe_str (pa_cons pe_dnewK (pa_cons (pe_callTy (call_dictT rfl hr.units) (by rfl) mdict (by decide +kernel) (pa_cons
            (pe_lc (own := [("_law_edge", 9)]) (g := gName 9) (tt := tYes) rfl scErrR.nd (pi_list (pv 3)) (blkOk_by (own := [("_law_edge", 9)]) (N := nErrR) (sc := defScope sErrR) (by decide +kernel))
              (fun _ _ _ _ _ => pg_name (i := 9) scErrR.nd rfl (Or.inl rfl)) (fun _ _ _ _ _ => pts_nil) (fun _ _ _ _ _ => pe_tup (pa_cons (pv 9) (pa_cons pe_int pa_nil)))) pa_nil)) pa_nil))))))) (pg_name (i := 8) scErrR.nd rfl (Or.inl rfl))
          (pss_one (ps_if (pt_cmpR (op_neD hr.units) (pe_callG GT hr gds rfl mT kT bT (pa_cons (pv 1) (pa_cons (pv 2) (pa_cons (pv 8) pa_nil)))) (pe_tup (pa_cons pe_str (pa_cons pe_str (pa_cons pe_bl pa_nil)))) (nomark _)) (pss_one (ps_ret pe_bl)) pss_nil)))
      (pss_one (ps_ret (pe_and (pe_cmpR (op_eqD hr.units) (pe_callG GT hr gds rfl mT kT bT (pa_cons (pv 1) (pa_cons (pe_lst (pa_cons pe_non pa_nil)) (pa_cons (pv 7) pa_nil)))) (pe_tup (pa_cons pe_str (pa_cons pe_int pa_nil))) (nomark _))
          (pe_one (pe_cmpR (op_eqD hr.units) (pe_callG GT hr gds rfl mT kT bT (pa_cons (pv 1) (pa_cons pe_non (pa_cons pe_non pa_nil)))) (pe_tup (pa_cons pe_str (pa_cons (pe_un un_neg pe_int) pa_nil))) (nomark _))))))))))), ?_⟩
    have pmS := perm_sort ks
    have kb : ∀ q ∈ ks, q.2.1 ∈ base8 ∧ q.2.2 ∈ base8 := fun q hq => by
      have := ok.eo _ (pmS.mem_iff.mp (List.mem_map.mpr ⟨q, hq, rfl⟩))
      exact ⟨n8 _ this.1, n8 _ this.2.1⟩
    have okK : ∀ q ∈ ks, OkE q.2 := fun q hq => ok.okE (pmS.mem_iff.mp (List.mem_map.mpr ⟨q, hq, rfl⟩))
    have ksl : ks.length ≤ 18 := by have := ok.el; rw [List.length_map, (sortE_perm ks).length_eq] at this; exact this
    obtain ⟨c1, c2, c3, c4, c5, c6, c7⟩ := okD_consts
    -- the seven
    refine ⟨by show 2 ≤ sizeLine; decide, fun t1 ht1 => ?_⟩
    have t1p : t1 ≠ p := S0.ne ht1
    have s1 : Same H (L2.upd H t1 (.tup [.str "a", .str "nobody"])) := Same.new ht1
    have e1 : (L2.upd H t1 (.tup [.str "a", .str "nobody"])) t1 = some (.tup [.str "a", .str "nobody"]) := upd_same
    generalize L2.upd H t1 (.tup [.str "a", .str "nobody"]) = H1 at s1 e1 ⊢
    refine ⟨by show 0 ≤ sizeLine; decide, fun l0 hl0 => ?_⟩
    have l0p : l0 ≠ p := (S0.but s1).ne hl0
    have s2 : Same H1 (L2.upd H1 l0 (.lst [])) := Same.new hl0
    have e2 : (L2.upd H1 l0 (.lst [])) l0 = some (.lst []) := upd_same
    generalize L2.upd H1 l0 (.lst []) = H2 at s2 e2 ⊢
    have s02 := s1.trans s2
    refine ⟨by show 1 ≤ sizeLine; decide, fun t2 ht2 => ?_⟩
    have t2p : t2 ≠ p := (S0.but s02).ne ht2
    have s3 : Same H2 (L2.upd H2 t2 (.tup [.str "a"])) := Same.new ht2
    have e3 : (L2.upd H2 t2 (.tup [.str "a"])) t2 = some (.tup [.str "a"]) := upd_same
    generalize L2.upd H2 t2 (.tup [.str "a"]) = H3 at s3 e3 ⊢
    have s03 := s02.trans s3
    refine ⟨by show 0 ≤ sizeLine; decide, fun t3 ht3 => ?_⟩
    have t3p : t3 ≠ p := (S0.but s03).ne ht3
    have s4 : Same H3 (L2.upd H3 t3 (.tup [])) := Same.new ht3
    have e4 : (L2.upd H3 t3 (.tup [])) t3 = some (.tup []) := upd_same
    generalize L2.upd H3 t3 (.tup []) = H4 at s4 e4 ⊢
    have s04 := s03.trans s4
    refine ⟨by show 7 ≤ sizeLine; decide, fun l7 hl7 => ?_⟩
    have s5 : Same H4 (L2.upd H4 l7 (.lst [.non, .int 5, .str "ab", .ref t1, .ref l0, .ref t2, .ref t3])) := Same.new hl7
    have e5 : (L2.upd H4 l7 (.lst [.non, .int 5, .str "ab", .ref t1, .ref l0, .ref t2, .ref t3])) l7 = some (.lst [.non, .int 5, .str "ab", .ref t1, .ref l0, .ref t2, .ref t3]) := upd_same
    generalize L2.upd H4 l7 (.lst [.non, .int 5, .str "ab", .ref t1, .ref l0, .ref t2, .ref t3]) = H5 at s5 e5 ⊢
    have s05 := s04.trans s5
    have each5 : ∀ x ∈ [V.non, .int 5, .str "ab", .ref t1, .ref l0, .ref t2, .ref t3], OddIn p H5 x := fun x hx => by
      simp only [List.mem_cons, List.not_mem_nil, or_false] at hx
      rcases hx with rfl | rfl | rfl | rfl | rfl | rfl | rfl
      · exact ⟨_, .non, c1⟩
      · exact ⟨_, .int 5, c2⟩
      · exact ⟨_, .str "ab", c3⟩
      · exact ⟨_, .tup (hide_at t1p (s5 _ _ (s4 _ _ (s3 _ _ (s2 _ _ e1))))) (.cons (.str _) (.cons (.str _) .nil)), c4⟩
      · exact ⟨_, .lst (hide_at l0p (s5 _ _ (s4 _ _ (s3 _ _ e2)))) .nil, c5⟩
      · exact ⟨_, .tup (hide_at t2p (s5 _ _ (s4 _ _ e3))) (.cons (.str _) .nil), c6⟩
      · exact ⟨_, .tup (hide_at t3p (s5 _ _ e4)) .nil, c7⟩
    have S5 := S0.but s05
    -- edges[:2], reversed
    refine ⟨_, rfl, _, rfl, e, _, rfl, SqL.of (s05 _ _ hE), fun q1 hq1 => ?_⟩
    rw [cut_take _ _ (by decide), ← List.map_take]
    have t2l : (ks.take (2 : Int).toNat).length ≤ 2 := by rw [List.length_take]; exact Nat.min_le_left _ _
    have t2m : ∀ q ∈ ks.take (2 : Int).toNat, q ∈ ks := fun q hq => List.mem_of_mem_take hq
    generalize ks.take (2 : Int).toNat = k2 at t2l t2m ⊢
    have s6 : Same H5 (L2.upd H5 q1 (.lst (k2.map fun q => V.ref q.1))) := Same.new hq1
    have e6 : (L2.upd H5 q1 (.lst (k2.map fun q => V.ref q.1))) q1 = some (.lst (k2.map fun q => V.ref q.1)) := upd_same
    generalize L2.upd H5 q1 (.lst (k2.map fun q => V.ref q.1)) = H6 at s6 e6 ⊢
    have s06 := s05.trans s6
    have S6 := S0.but s06
    refine ⟨q1, rfl, ⟨_, SqL.of e6⟩, fun D hD => lc_list (K := K) (a := q1) (xs := k2.map fun q => V.ref q.1) (fun i H' => Same H6 H' ∧ ∃ zs : List V, H' D = some (.lst zs) ∧ zs.length = i ∧ ∀ x ∈ zs, ∃ t u v, x = .ref t ∧ H' t = some (.tup [.str u, .str v]) ∧ t ≠ p ∧ u ∈ base8 ∧ v ∈ base8)
      ⟨Same.new hD, [], upd_same, rfl, fun _ z => by cases z⟩ (fun i H' _ ⟨s, _⟩ => SqL.of (s _ _ e6)) ?_ ?_⟩
    · rintro i y Ha hy ⟨sA, zs, z1, z2, z3⟩
      have li : i < k2.length := by have := (List.getElem?_eq_some_iff.mp hy).1; rw [List.length_map] at this; exact this
      rw [List.getElem?_map, List.getElem?_eq_getElem li] at hy
      obtain rfl : V.ref k2[i].1 = y := Option.some.inj hy
      have mk := t2m _ (List.getElem_mem li)
      have ed := (s06.trans sA) _ _ (hEd _ mk)
      refine ⟨rfl, _, rfl, k2[i].1, _, _, rfl, ed, fun t ht => ⟨zs, ?_, ?_, Same.grow hD (sA.trans (Same.new ht)), zs ++ [.ref t], upd_same, ?_, fun x hx => ?_⟩⟩
      · rw [upd_ne (ne_of_none z1 ht)]; exact z1
      · rw [z2, sizeLine_eq]; omega
      · rw [List.length_append, z2]; rfl
      · have tD : t ≠ D := (ne_of_none z1 ht).symm
        rcases List.mem_append.mp hx with hx | hx
        · obtain ⟨t', u, v, rfl, h1, h2, h3⟩ := z3 x hx
          refine ⟨t', u, v, rfl, ?_, h2, h3⟩
          rw [upd_ne (ne_of h1 z1 (fun z => by cases z)), upd_ne (ne_of_none h1 ht)]; exact h1
        · cases List.mem_singleton.mp hx
          refine ⟨t, _, _, rfl, ?_, (S6.but sA).ne ht, (kb _ mk).2, (kb _ mk).1⟩
          rw [upd_ne tD]; exact upd_same
    rintro H7 ⟨s7, zs, z1, z2, z3⟩
    rw [List.length_map] at z2
    have s07 := s06.trans s7
    refine ⟨l7, D, _, _, rfl, rfl, (s6.trans s7) _ _ e5, z1, by rw [z2, sizeLine_eq]; show 7 + _ ≤ _; omega, fun o1 ho1 => ?_⟩
    have odd7 : ∀ x ∈ [V.non, .int 5, .str "ab", .ref t1, .ref l0, .ref t2, .ref t3] ++ zs, OddIn p H7 x := fun x hx => by
      rcases List.mem_append.mp hx with hx | hx
      · exact (each5 x hx).same (s6.trans s7)
      · obtain ⟨t', u, v, rfl, h1, h2, h3, h4⟩ := z3 x hx
        exact ⟨_, .tup (hide_at h2 h1) (.cons (.str _) (.cons (.str _) .nil)), okD_edge h3 h4⟩
    have len7 : ([V.non, .int 5, .str "ab", .ref t1, .ref l0, .ref t2, .ref t3] ++ zs).length ≤ 9 ∧ 0 < ([V.non, .int 5, .str "ab", .ref t1, .ref l0, .ref t2, .ref t3] ++ zs).length := by rw [List.length_append, z2]; show 7 + _ ≤ 9 ∧ 0 < 7 + _; omega
    generalize [V.non, .int 5, .str "ab", .ref t1, .ref l0, .ref t2, .ref t3] ++ zs = O7 at odd7 len7 ⊢
    have s8 : Same H7 (L2.upd H7 o1 (.lst O7)) := Same.new ho1
    have e8 : (L2.upd H7 o1 (.lst O7)) o1 = some (.lst O7) := upd_same
    generalize L2.upd H7 o1 (.lst O7) = H8 at s8 e8 ⊢
    have s08 := s07.trans s8
    -- + some[:1]
    refine ⟨_, rfl, _, rfl, sm, _, rfl, SqL.of (s08 _ _ hS), fun q2 hq2 => ?_⟩
    rw [cut_take _ _ (by decide), ← List.map_take]
    have u1l : (js.take (1 : Int).toNat).length ≤ 1 := by rw [List.length_take]; exact Nat.min_le_left _ _
    have u1m : ∀ q ∈ js.take (1 : Int).toNat, q ∈ ks := fun q hq => jin q (List.mem_of_mem_take hq)
    generalize js.take (1 : Int).toNat = j1 at u1l u1m ⊢
    have s9 : Same H8 (L2.upd H8 q2 (.lst (j1.map fun q => V.ref q.1))) := Same.new hq2
    have e9 : (L2.upd H8 q2 (.lst (j1.map fun q => V.ref q.1))) q2 = some (.lst (j1.map fun q => V.ref q.1)) := upd_same
    generalize L2.upd H8 q2 (.lst (j1.map fun q => V.ref q.1)) = H9 at s9 e9 ⊢
    have s09 := s08.trans s9
    refine ⟨o1, q2, _, _, rfl, rfl, s9 _ _ e8, e9, by rw [List.length_map, sizeLine_eq]; omega, fun o2 ho2 => ?_⟩
    have odd9 : ∀ x ∈ O7 ++ j1.map (fun q => V.ref q.1), OddIn p H9 x := fun x hx => by
      rcases List.mem_append.mp hx with hx | hx
      · exact (odd7 x hx).same (s8.trans s9)
      · obtain ⟨q, hq, rfl⟩ := List.mem_map.mp hx
        have mq := u1m q hq
        exact oddEdge (S0.but s09) (s09 _ _ (hEd q mq)) (kb q mq).1 (kb q mq).2
    have len9 : (O7 ++ j1.map (fun q => V.ref q.1)).length ≤ 10 ∧ 0 < (O7 ++ j1.map (fun q => V.ref q.1)).length := by rw [List.length_append, List.length_map]; omega
    generalize O7 ++ j1.map (fun q => V.ref q.1) = O9 at odd9 len9 ⊢
    have sa : Same H9 (L2.upd H9 o2 (.lst O9)) := Same.new ho2
    have ea : (L2.upd H9 o2 (.lst O9)) o2 = some (.lst O9) := upd_same
    generalize L2.upd H9 o2 (.lst O9) = Ha at sa ea ⊢
    have s0a := s09.trans sa
    have Sa := S0.but s0a
    -- + [list(edge) for edge in edges[:1]]
    refine ⟨_, rfl, _, rfl, _, rfl, e, _, rfl, SqL.of (s0a _ _ hE), fun q3 hq3 => ?_⟩
    rw [cut_take _ _ (by decide), ← List.map_take]
    have v1l : (ks.take (1 : Int).toNat).length ≤ 1 := by rw [List.length_take]; exact Nat.min_le_left _ _
    have v1m : ∀ q ∈ ks.take (1 : Int).toNat, q ∈ ks := fun q hq => List.mem_of_mem_take hq
    generalize ks.take (1 : Int).toNat = k1 at v1l v1m ⊢
    have sb : Same Ha (L2.upd Ha q3 (.lst (k1.map fun q => V.ref q.1))) := Same.new hq3
    have eb : (L2.upd Ha q3 (.lst (k1.map fun q => V.ref q.1))) q3 = some (.lst (k1.map fun q => V.ref q.1)) := upd_same
    generalize L2.upd Ha q3 (.lst (k1.map fun q => V.ref q.1)) = Hb at sb eb ⊢
    have s0b := s0a.trans sb
    have Sb := S0.but s0b
    refine ⟨q3, rfl, ⟨_, SqL.of eb⟩, fun D2 hD2 => lc_list (K := K) (a := q3) (xs := k1.map fun q => V.ref q.1) (fun i H' => Same Hb H' ∧ ∃ zs : List V, H' D2 = some (.lst zs) ∧ zs.length = i ∧ ∀ x ∈ zs, ∃ t u v, x = .ref t ∧ t ≠ D2 ∧ H' t = some (.lst [.str u, .str v]) ∧ t ≠ p ∧ u ∈ base8 ∧ v ∈ base8)
      ⟨Same.new hD2, [], upd_same, rfl, fun _ z => by cases z⟩ (fun i H' _ ⟨s, _⟩ => SqL.of (s _ _ eb)) ?_ ?_⟩
    · rintro i y Hx hy ⟨sA, zs, z1, z2, z3⟩
      have li : i < k1.length := by have := (List.getElem?_eq_some_iff.mp hy).1; rw [List.length_map] at this; exact this
      rw [List.getElem?_map, List.getElem?_eq_getElem li] at hy
      obtain rfl : V.ref k1[i].1 = y := Option.some.inj hy
      have mk := v1m _ (List.getElem_mem li)
      have ed := (s0b.trans sA) _ _ (hEd _ mk)
      refine ⟨rfl, _, rfl, k1[i].1, _, rfl, .inr (SqT.of ed), fun t ht => ⟨zs, ?_, ?_, Same.grow hD2 (sA.trans (Same.new ht)), zs ++ [.ref t], upd_same, ?_, fun x hx => ?_⟩⟩
      · rw [upd_ne (ne_of_none z1 ht)]; exact z1
      · rw [z2, sizeLine_eq]; omega
      · rw [List.length_append, z2]; rfl
      · have tD : t ≠ D2 := (ne_of_none z1 ht).symm
        rcases List.mem_append.mp hx with hx | hx
        · obtain ⟨t', u, v, rfl, h0, h1, h2, h3⟩ := z3 x hx
          refine ⟨t', u, v, rfl, h0, ?_, h2, h3⟩
          rw [upd_ne h0, upd_ne (ne_of_none h1 ht)]; exact h1
        · cases List.mem_singleton.mp hx
          refine ⟨t, _, _, rfl, tD, ?_, (Sb.but sA).ne ht, (kb _ mk).1, (kb _ mk).2⟩
          rw [upd_ne tD]; exact upd_same
    rintro Hc ⟨sc, ys, y1, y2, y3⟩
    rw [List.length_map] at y2
    have s0c := s0b.trans sc
    refine ⟨o2, D2, _, _, rfl, rfl, (sb.trans sc) _ _ ea, y1, by rw [y2, sizeLine_eq]; omega, fun o3 ho3 => ?_⟩
    have oddc : ∀ x ∈ O9 ++ ys, OddIn p Hc x := fun x hx => by
      rcases List.mem_append.mp hx with hx | hx
      · exact (odd9 x hx).same (sa.trans (sb.trans sc))
      · obtain ⟨t', u, v, rfl, h0, h1, h2, h3, h4⟩ := y3 x hx
        exact ⟨_, .lst (hide_at h2 h1) (.cons (.str _) (.cons (.str _) .nil)), okD_list h3 h4⟩
    have lenc : (O9 ++ ys).length ≤ 11 ∧ 0 < (O9 ++ ys).length := by rw [List.length_append, y2]; omega
    generalize O9 ++ ys = OS at oddc lenc ⊢
    have o3p : o3 ≠ p := (S0.but s0c).ne ho3
    have sd : Same Hc (L2.upd Hc o3 (.lst OS)) := Same.new ho3
    have ed : (L2.upd Hc o3 (.lst OS)) o3 = some (.lst OS) := upd_same
    generalize L2.upd Hc o3 (.lst OS) = Hd at sd ed ⊢
    have s0d := s0c.trans sd
    have Sd := S0.but s0d
    have oddd : ∀ x ∈ OS, OddIn p Hd x := fun x hx => (oddc x hx).same sd
    -- at
    refine ⟨_, rfl, _, rfl, sm, _, rfl, .inl (SqL.of (s0d _ _ hS)), _, _, rfl, rfl, p, _, rfl, Sd, by omega, by rw [List.length_map]; omega, fun r He r0 r1 Se Be => ?_⟩
    obtain ⟨n, rfl⟩ : ∃ n : Nat, r = n := ⟨r.toNat, by omega⟩
    have B0e : But p H He := (But.of_same s0d).trans Be
    have hSe := B0e _ _ smp hS
    have ede := Be _ _ o3p ed
    refine ⟨_, rfl, _, rfl, _, rfl, sm, _, rfl, SqL.of hSe, fun q4 hq4 => ?_⟩
    rw [cut_take _ _ (by omega), Int.toNat_natCast, ← List.map_take]
    have q4p : q4 ≠ p := Se.ne hq4
    have sf : Same He (L2.upd He q4 (.lst ((js.take n).map fun q => V.ref q.1))) := Same.new hq4
    have ef : (L2.upd He q4 (.lst ((js.take n).map fun q => V.ref q.1))) q4 = some (.lst ((js.take n).map fun q => V.ref q.1)) := upd_same
    generalize L2.upd He q4 (.lst ((js.take n).map fun q => V.ref q.1)) = Hf at sf ef ⊢
    have Sf := Se.but sf
    refine ⟨_, rfl, _, rfl, p, o3, OS, rfl, Sf, o3p.symm, SqL.of (sf _ _ ede), sf _ _ ede, lenc.2, by omega, fun x Hg hx Sg Bg => ⟨by show 1 ≤ sizeLine; decide, fun q5 hq5 => ?_⟩⟩
    have B0f := B0e.sm sf
    have B0g := B0f.trans Bg
    have oddg : OddIn p Hg x := (oddd x hx).but ((Be.sm sf).trans Bg)
    have q5p : q5 ≠ p := Sg.ne hq5
    have sh : Same Hg (L2.upd Hg q5 (.lst [x])) := Same.new hq5
    have eh : (L2.upd Hg q5 (.lst [x])) q5 = some (.lst [x]) := upd_same
    generalize L2.upd Hg q5 (.lst [x]) = Hh at sh eh ⊢
    have Sh := Sg.but sh
    have B0h := B0g.sm sh
    have efh := sh _ _ (Bg _ _ q4p ef)
    have jtl : (js.take n).length ≤ 18 := by rw [List.length_take]; omega
    refine ⟨q4, q5, _, _, rfl, rfl, efh, eh, by rw [List.length_map, sizeLine_eq]; show _ + 1 ≤ _; omega, fun m1 hm1 => ?_⟩
    have si : Same Hh (L2.upd Hh m1 (.lst ((js.take n).map (fun q => V.ref q.1) ++ [x]))) := Same.new hm1
    have ei : (L2.upd Hh m1 (.lst ((js.take n).map (fun q => V.ref q.1) ++ [x]))) m1 = some (.lst ((js.take n).map (fun q => V.ref q.1) ++ [x])) := upd_same
    generalize L2.upd Hh m1 (.lst ((js.take n).map (fun q => V.ref q.1) ++ [x])) = Hi at si ei ⊢
    have Si := Sh.but si
    have B0i := B0h.sm si
    refine ⟨_, rfl, _, rfl, _, rfl, sm, _, rfl, SqL.of (B0i _ _ smp hS), fun q6 hq6 => ?_⟩
    rw [cut_dropN, ← List.map_drop]
    have sj : Same Hi (L2.upd Hi q6 (.lst ((js.drop n).map fun q => V.ref q.1))) := Same.new hq6
    have ej : (L2.upd Hi q6 (.lst ((js.drop n).map fun q => V.ref q.1))) q6 = some (.lst ((js.drop n).map fun q => V.ref q.1)) := upd_same
    generalize L2.upd Hi q6 (.lst ((js.drop n).map fun q => V.ref q.1)) = Hj at sj ej ⊢
    have Sj := Si.but sj
    have B0j := B0i.sm sj
    have jdl : (js.drop n).length ≤ 18 := by rw [List.length_drop]; omega
    refine ⟨m1, q6, _, _, rfl, rfl, sj _ _ ei, ej, by rw [List.length_append, List.length_map, List.length_map, sizeLine_eq]; show _ + 1 + _ ≤ _; omega, fun m2 hm2 => ?_⟩
    have sk : Same Hj (L2.upd Hj m2 (.lst ((js.take n).map (fun q => V.ref q.1) ++ [x] ++ (js.drop n).map fun q => V.ref q.1))) := Same.new hm2
    have ek : (L2.upd Hj m2 (.lst ((js.take n).map (fun q => V.ref q.1) ++ [x] ++ (js.drop n).map fun q => V.ref q.1))) m2 = some (.lst ((js.take n).map (fun q => V.ref q.1) ++ [x] ++ (js.drop n).map fun q => V.ref q.1)) := upd_same
    generalize L2.upd Hj m2 (.lst ((js.take n).map (fun q => V.ref q.1) ++ [x] ++ (js.drop n).map fun q => V.ref q.1)) = Hk at sk ek ⊢
    have Sk := Sj.but sk
    have B0k := B0j.sm sk
    refine ⟨by show 1 ≤ sizeLine; decide, fun q7 hq7 => ?_⟩
    have sl : Same Hk (L2.upd Hk q7 (.lst [.non])) := Same.new hq7
    have el : (L2.upd Hk q7 (.lst [.non])) q7 = some (.lst [.non]) := upd_same
    generalize L2.upd Hk q7 (.lst [.non]) = Hl at sl el ⊢
    refine ⟨m2, q7, _, _, rfl, rfl, sl _ _ ek, el, by rw [List.length_append, List.length_append, List.length_map, List.length_map, sizeLine_eq]; show _ + 1 + _ + 1 ≤ _; omega, fun bad hbad => ?_⟩
    have Sl := Sk.but sl
    have B0l := B0k.sm sl
    have oddl : ∀ y ∈ (js.take n).map (fun q => V.ref q.1) ++ [x] ++ (js.drop n).map (fun q => V.ref q.1) ++ [.non], OddIn p Hl y := fun y hy => by
      have edge : ∀ q ∈ js, OddIn p Hl (.ref q.1) := fun q hq => by
        have mq := jin q hq
        exact oddEdge Sl (EdAt.but S0 B0l (hEd q mq)) (kb q mq).1 (kb q mq).2
      rcases List.mem_append.mp hy with hy | hy
      · rcases List.mem_append.mp hy with hy | hy
        · rcases List.mem_append.mp hy with hy | hy
          · obtain ⟨q, hq, rfl⟩ := List.mem_map.mp hy
            exact edge q (List.mem_of_mem_take hq)
          · cases List.mem_singleton.mp hy
            exact oddg.same (sh.trans (si.trans (sj.trans (sk.trans sl))))
        · obtain ⟨q, hq, rfl⟩ := List.mem_map.mp hy
          exact edge q (List.mem_of_mem_drop hq)
      · cases List.mem_singleton.mp hy
        exact ⟨_, .non, c1⟩
    have lenl : ((js.take n).map (fun q => V.ref q.1) ++ [x] ++ (js.drop n).map (fun q => V.ref q.1) ++ [V.non]).length ≤ 40 := by
      rw [List.length_append, List.length_append, List.length_append, List.length_map, List.length_map]; show _ + 1 + _ + 1 ≤ _; omega
    have last : V.non ∈ (js.take n).map (fun q => V.ref q.1) ++ [x] ++ (js.drop n).map (fun q => V.ref q.1) ++ [V.non] := List.mem_append_right _ List.mem_cons_self
    generalize (js.take n).map (fun q => V.ref q.1) ++ [x] ++ (js.drop n).map (fun q => V.ref q.1) ++ [V.non] = BS at oddl lenl last ⊢
    obtain ⟨ds, als, okds⟩ := oddAll oddl
    have dsl : ds.length ≤ 40 := by rw [← odLen als]; exact lenl
    have badp : bad ≠ p := Sl.ne hbad
    have sm_ : Same Hl (L2.upd Hl bad (.lst BS)) := Same.new hbad
    have em : (L2.upd Hl bad (.lst BS)) bad = some (.lst BS) := upd_same
    generalize L2.upd Hl bad (.lst BS) = Hm at sm_ em ⊢
    have Sm := Sl.but sm_
    have B0m := B0l.sm sm_
    generalize hes : (sortE ks).map (·.2) = es at ok sub pmS
    have Gm := G0.but S0 B0m
    have Rm := R0.but S0 rp B0m
    have ok' : GOk ns ((sortE ks).map (·.2)) := by rw [hes]; exact ok
    have rg : recBad ns es (.list (ps.map pD)) = none := by
      rw [recBad_list, rec_good ok.asc ok.eo rnd sub (fun _ _ z => by cases z)]; rfl
    have psl : ps.length ≤ 153 := Nat.le_trans (nodup_len rnd sub) (pairs_few ok.el)
    have lenR : ∀ d, itD (.list (ps.map pD)) = some d → d.length < 200 := fun d h => by
      obtain rfl : ps.map pD = d := Option.some.inj h
      rw [List.length_map]; omega
    have alm : OdAll Hm BS ds := als.same (hide_same.trans sm_)
    have lenB : ∀ d, itD (.list ds) = some d → d.length < 200 := fun d h => by
      obtain rfl : ds = d := Option.some.inj h
      omega
    obtain ⟨dn, mdn, odn⟩ := od_mem als last
    cases odn
    obtain ⟨bd, hbd, mbd⟩ := badE_some (ns := ns) (es := es) (seen := []) mdn
    have hbd' : edsBad ns es (.list ds) = some bd := hbd
    have an : ∀ d, (((ks.map (·.2)).map encE).any fun z => PyData.eqv z d) = edB ns es d := fun d => any_ed ok.eo pmS d
    have hEm := B0m _ _ ep hE
    have hEdm : ∀ q ∈ ks, EdAt Hm q := fun q hq => EdAt.but S0 B0m (hEd q hq)
    -- told(graph, record, bad) != ("edge", first_bad(bad, edges), False)
    refine ⟨_, rfl, _, rfl, _, rfl, g, ns, sortE ks, _, _, .list (ps.map pD), .list ds, rfl, Gm, ok', Rm.od, .lst em alm, lenR, lenB, .inr ⟨by rw [hes]; exact rg, bd, by rw [hes]; exact hbd', (okds bd mbd).rep, fun t Hn ht et sn => ?_⟩⟩
    refine ⟨_, rfl, _, rfl, bad, e, ns, es, ks, BS, ds, bd, rfl, sn _ _ em, alm.same sn, (fun d hd => (okds d hd).fine), (fun d hd => (okds d hd).rep), by omega, sn _ _ hEm, (fun q hq => sn _ _ (hEdm q hq)), okK, an, hbd, fun Ho so => ?_⟩
    refine ⟨by show 3 ≤ sizeLine; decide, fun u1 hu1 => ?_⟩
    have sP : Same Ho (L2.upd Ho u1 (.tup [.str "edge", .str bd.shown, .bl false])) := Same.new hu1
    have eP : (L2.upd Ho u1 (.tup [.str "edge", .str bd.shown, .bl false])) u1 = some (.tup [.str "edge", .str bd.shown, .bl false]) := upd_same
    generalize L2.upd Ho u1 (.tup [.str "edge", .str bd.shown, .bl false]) = Hp1 at sP eP ⊢
    have sh3 := shaped3 (z := "edge") (y := bd.shown) (b := false) (by decide +kernel) (okds bd mbd).txt
    refine ⟨_, _, dp_tup3 (sP _ _ (so _ _ et)), dp_tup3 eP, sh3, sh3, _, rfl, ?_⟩
    rw [eqv_tup3]
    refine iteF ?_
    have smp1 : Same Hm Hp1 := sn.trans (so.trans sP)
    -- the five values
    refine fun d4 hd4 => ?_
    have sq : Same Hp1 (L2.upd Hp1 d4 (.dK [])) := Same.new hd4
    have eq : (L2.upd Hp1 d4 (.dK [])) d4 = some (.dK []) := upd_same
    generalize L2.upd Hp1 d4 (.dK []) = Hq at sq eq ⊢
    have smq := smp1.trans sq
    refine ⟨_, rfl, e, rfl, ⟨_, SqL.of (smq _ _ hEm)⟩, fun D3 hD3 => lc_list (K := K) (a := e) (xs := ks.map fun q => V.ref q.1) (fun i H' => Same Hq H' ∧ ∃ qs : List DtP, H' D3 = some (.lst (qs.map fun q => V.ref q.1)) ∧ (∀ q ∈ qs, H' q.1 = some (.tup [.ref q.2.1.1, q.2.2])) ∧ qs.map (fun q => q.2.1) = ks.take i)
      ⟨Same.new hD3, [], upd_same, (fun _ z => by cases z), by simp⟩ (fun i H' _ ⟨s, _⟩ => SqL.of ((smq.trans s) _ _ hEm)) ?_ ?_⟩
    · rintro i y Hx hy ⟨sA, qs, z1, z2, z3⟩
      have li : i < ks.length := by have := (List.getElem?_eq_some_iff.mp hy).1; rw [List.length_map] at this; exact this
      rw [List.getElem?_map, List.getElem?_eq_getElem li] at hy
      obtain rfl : V.ref ks[i].1 = y := Option.some.inj hy
      have ql : qs.length ≤ 18 := by
        have := congrArg List.length z3
        rw [List.length_map, List.length_take] at this; omega
      refine ⟨rfl, _, rfl, by show 2 ≤ sizeLine; decide, fun t ht => ⟨qs.map fun q => V.ref q.1, ?_, ?_, Same.grow hD3 (sA.trans (Same.new ht)), qs ++ [(t, ks[i], .int 1)], ?_, fun q hq => ?_, ?_⟩⟩
      · rw [upd_ne (ne_of_none z1 ht)]; exact z1
      · rw [List.length_map, sizeLine_eq]; omega
      · rw [upd_same, List.map_append]; rfl
      · have tD : t ≠ D3 := (ne_of_none z1 ht).symm
        rcases List.mem_append.mp hq with hq | hq
        · have h1 := z2 q hq
          rw [upd_ne (ne_of h1 z1 (fun z => by cases z)), upd_ne (ne_of_none h1 ht)]; exact h1
        · cases List.mem_singleton.mp hq
          rw [upd_ne tD]; exact upd_same
      · rw [List.map_append, z3, take_one (List.getElem?_eq_getElem li)]; rfl
    rintro Hr ⟨sr, qs, z1, z2, z3⟩
    rw [List.length_map, List.take_length] at z3
    have smr := smq.trans sr
    have qin : ∀ q ∈ qs, q.2.1 ∈ ks := fun q hq => by rw [← z3]; exact List.mem_map.mpr ⟨q, hq, rfl⟩
    refine ⟨D3, qs, rfl, z1, z2, (fun q hq => smr _ _ (hEdm _ (qin q hq))), ?_, ?_, fun d5 kvs hd5 => ?_⟩
    · have : qs.map (fun q => q.2.1.2) = ks.map (·.2) := by rw [← z3, List.map_map]; rfl
      rw [this]; exact nd
    · have := congrArg List.length z3
      rw [List.length_map] at this; omega
    have ss : Same Hr (L2.upd Hr d5 (.dT kvs)) := Same.new hd5
    have es_ : (L2.upd Hr d5 (.dT kvs)) d5 = some (.dT kvs) := upd_same
    generalize L2.upd Hr d5 (.dT kvs) = Hs at ss es_ ⊢
    have sms := smr.trans ss
    refine ⟨by show 5 ≤ sizeLine; decide, fun tv htv => ?_⟩
    have st : Same Hs (L2.upd Hs tv (.tup [.non, .int 5, .str "ab", .ref d4, .ref d5])) := Same.new htv
    have et_ : (L2.upd Hs tv (.tup [.non, .int 5, .str "ab", .ref d4, .ref d5])) tv = some (.tup [.non, .int 5, .str "ab", .ref d4, .ref d5]) := upd_same
    generalize L2.upd Hs tv (.tup [.non, .int 5, .str "ab", .ref d4, .ref d5]) = Ht at st et_ ⊢
    have smt := sms.trans st
    have vals : ∀ x ∈ [V.non, .int 5, .str "ab", .ref d4, .ref d5], ∃ d, Od Ht x d ∧ itD d = none := fun x hx => by
      simp only [List.mem_cons, List.not_mem_nil, or_false] at hx
      rcases hx with rfl | rfl | rfl | rfl | rfl
      · exact ⟨_, .non, rfl⟩
      · exact ⟨_, .int 5, rfl⟩
      · exact ⟨_, .str "ab", rfl⟩
      · exact ⟨_, .dct (st _ _ (ss _ _ (sr _ _ eq))), rfl⟩
      · exact ⟨_, .dcT (st _ _ es_), rfl⟩
    have none_sh : (PyData.none).shown = ("None" : Str) := by simp only [PyData.shown]
    refine ⟨tv, rfl, ⟨_, SqT.of et_⟩, for_tup (K := K) (a := tv) (xs := [V.non, .int 5, .str "ab", .ref d4, .ref d5]) (fun j σ H' => (∃ w8, σ = [some (.ref p), some (.ref g), some (.ref rc), some (.ref e), some (.ref sm), some (.ref o3), some (.int (n : Nat)), some (.ref bad), w8, none]) ∧ Same Ht H') ⟨⟨_, rfl⟩, Same.refl _⟩ (fun j σ H' _ ⟨_, s⟩ => SqT.of (s _ _ et_)) ?_ ?_⟩
    · rintro j x2 σ Hu hj ⟨⟨w8, rfl⟩, su⟩
      obtain ⟨dv, ov, itv⟩ := vals x2 (List.mem_of_getElem? hj)
      have smu := smt.trans su
      have eb : edsBad ns es dv = some .none := by unfold edsBad; rw [itv]
      refine ⟨_, rfl, _, rfl, _, rfl, g, ns, sortE ks, _, _, .list (ps.map pD), dv, rfl, Gm.same smu, ok', (Rm.kept smu).od, ov.same su, lenR, (fun d h => by rw [itv] at h; cases h), .inr ⟨by rw [hes]; exact rg, .none, by rw [hes]; exact eb, c1.rep, fun t Hv ht et2 sv => ?_⟩⟩
      refine ⟨by show 3 ≤ sizeLine; decide, fun u2 hu2 => ?_⟩
      have sw : Same Hv (L2.upd Hv u2 (.tup [.str "edge", .str "None", .bl false])) := Same.new hu2
      rw [none_sh] at et2
      have sh4 := shaped3 (z := "edge") (y := "None") (b := false) (by decide +kernel) (by decide +kernel)
      refine ⟨_, _, dp_tup3 (sw _ _ et2), dp_tup3 upd_same, sh4, sh4, _, rfl, ?_⟩
      rw [eqv_tup3]
      exact iteF ⟨⟨_, rfl⟩, su.trans (sv.trans sw)⟩
    · rintro σ Hu ⟨⟨w8, rfl⟩, su⟩
      have smu := smt.trans su
      refine ⟨_, rfl, by show 1 ≤ sizeLine; decide, fun l9 hl9 => ?_⟩
      have s9' : Same Hu (L2.upd Hu l9 (.lst [.non])) := Same.new hl9
      have e9' : (L2.upd Hu l9 (.lst [.non])) l9 = some (.lst [.non]) := upd_same
      generalize L2.upd Hu l9 (.lst [.non]) = Hv at s9' e9' ⊢
      have smv := smu.trans s9'
      refine ⟨_, rfl, g, ns, sortE ks, _, _, .list [.none], .list ds, rfl, Gm.same smv, ok', .lst e9' (.cons .non .nil), (Od.lst em alm).same smv, (fun d h => by obtain rfl : [PyData.none] = d := Option.some.inj h; decide), lenB, .inl ⟨0, rfl, fun t Hw ht et3 sw => ?_⟩⟩
      refine ⟨by show 2 ≤ sizeLine; decide, fun u3 hu3 => ?_⟩
      have sx : Same Hw (L2.upd Hw u3 (.tup [.str "record", .int 0])) := Same.new hu3
      have ex : (L2.upd Hw u3 (.tup [.str "record", .int 0])) u3 = some (.tup [.str "record", .int 0]) := upd_same
      generalize L2.upd Hw u3 (.tup [.str "record", .int 0]) = Hx at sx ex ⊢
      refine ⟨_, _, dp_tup2 (sx _ _ et3), dp_tup2 ex, by decide +kernel, by decide +kernel, _, rfl, ?_⟩
      have e1' : PyData.eqv (.tuple [.str "record", .int 0]) (.tuple [.str "record", .int 0]) = true := by decide +kernel
      rw [e1']
      have smx := smv.trans (sw.trans sx)
      refine iteT ⟨_, rfl, g, ns, sortE ks, _, _, .none, .none, rfl, Gm.same smx, ok', .non, .non, (fun d h => by cases h), (fun d h => by cases h), .inl ⟨-1, rfl, fun t2 Hy ht2 et4 sy => ?_⟩⟩
      refine ⟨1, rfl, by show 2 ≤ sizeLine; decide, fun u4 hu4 => ?_⟩
      have sz : Same Hy (L2.upd Hy u4 (.tup [.str "record", .int (-1)])) := Same.new hu4
      refine ⟨_, _, dp_tup2 (sz _ _ et4), dp_tup2 upd_same, by decide +kernel, by decide +kernel, ?_⟩
      have e2' : PyData.eqv (.tuple [.str "record", .int (-1)]) (.tuple [.str "record", .int (-1)]) = true := by decide +kernel
      rw [e2']
      have smz := smx.trans (sy.trans sz)
      exact k _ (Sm.but smz) (B0m.sm smz)
end
end CP
/-! the law -/
namespace CP
open PySem PySem.Spec PyProof.Rows L2
abbrev sLaw : Stmt := top 38
theorem ascE_unique : ∀ {l m : List E2}, l.Perm m → AscE l → AscE m → l = m
  | [], m, h, _, _ => h.nil_eq
  | p :: l, [], h, _, _ => absurd h.length_eq (by simp)
  | p :: l, q :: m, h, h1, h2 => by
    have e : p = q := by
      by_cases c : p = q
      · exact c
      · have a : p ∈ m := by
          rcases List.mem_cons.mp (h.mem_iff.mp (List.mem_cons_self (a := p) (l := l))) with z | z
          · exact absurd z c
          · exact z
        have b : q ∈ l := by
          rcases List.mem_cons.mp (h.mem_iff.mpr (List.mem_cons_self (a := q) (l := m))) with z | z
          · exact absurd z.symm c
          · exact z
        have u := (List.pairwise_cons.mp h1).1 q b
        have v := (List.pairwise_cons.mp h2).1 p a
        rw [ltE_asymm u] at v; cases v
    subst e
    rw [ascE_unique (List.Perm.cons_inv h) (List.pairwise_cons.mp h1).2 (List.pairwise_cons.mp h2).2]
theorem sortE_vals {a b : List Ed} (h : a.map (·.2) = b.map (·.2)) (nd : (b.map (·.2)).Nodup) : (sortE a).map (·.2) = (sortE b).map (·.2) :=
  ascE_unique ((((sortE_perm a).map (·.2)).trans (by rw [h])).trans ((sortE_perm b).map (·.2)).symm) (asc_sort (by rw [h]; exact nd)) (asc_sort nd)
theorem ascP_ext {l m : List (E2 × E2)} (h1 : l.Pairwise (fun p q => ltP p q = true)) (h2 : m.Pairwise (fun p q => ltP p q = true)) (h : ∀ k, k ∈ l ↔ k ∈ m) : l = m :=
  ascP_unique ((List.perm_ext_iff_of_nodup (asc_nd h1) (asc_nd h2)).mpr h) h1 h2
/-- the tuple of both lists, as data -/
def bothE (ps : List (E2 × E2)) (vs : List E2) : PyData := .tuple [.list (ps.map pD), .list (vs.map encE)]
theorem bothE_show (ps : List (E2 × E2)) (vs : List E2) : (bothE ps vs).showable = true := by
  have a := show_row (ds := ps.map pD) fun d hd => by obtain ⟨p, _, rfl⟩ := List.mem_map.mp hd; exact pD_show p
  have b := show_row (ds := vs.map encE) fun d hd => by obtain ⟨v, _, rfl⟩ := List.mem_map.mp hd; simp [encE, PyData.showable, PyData.showableAll]
  simp [bothE, PyData.showable, PyData.showableAll, a, b]
theorem bothE_len {ps : List (E2 × E2)} {vs : List E2} (hp : ∀ p ∈ ps, (p.1.1 ∈ base8 ∧ p.1.2 ∈ base8) ∧ p.2.1 ∈ base8 ∧ p.2.2 ∈ base8) (hv : ∀ v ∈ vs, v.1 ∈ base8 ∧ v.2 ∈ base8) (lp : ps.length ≤ 200) (lv : vs.length ≤ 200) : (bothE ps vs).shown.length ≤ sizeLine := by
  have a := shown_list (B := 61) (ds := ps.map pD) fun d hd => by
    obtain ⟨p, h, rfl⟩ := List.mem_map.mp hd
    obtain ⟨⟨h1, h2⟩, h3, h4⟩ := hp p h
    exact two_len (enc_len h1 h2) (enc_len h3 h4)
  have b := shown_list (B := 61) (ds := vs.map encE) fun d hd => by
    obtain ⟨v, h, rfl⟩ := List.mem_map.mp hd
    exact Nat.le_trans (enc_len (hv v h).1 (hv v h).2) (by decide)
  rw [List.length_map] at a b
  have c := two_len (B := 20000) (x := .list (ps.map pD)) (y := .list (vs.map encE)) (by omega) (by omega)
  have e : (bothE ps vs).shown.length = (PyData.tuple [.list (ps.map pD), .list (vs.map encE)]).shown.length := rfl
  rw [e, sizeLine_eq]; omega
theorem bothE_lay {ps : List (E2 × E2)} {vs : List E2} (hp : ∀ p ∈ ps, OkP p) (hv : ∀ v ∈ vs, OkE v) : (bothE ps vs).canLay0 = true := by
  have a := pDs_lay hp
  have b := eds_lay hv
  simp [bothE, PyData.canLay0, PyData.canLayAll0, a, b]
theorem bothE_depth (ps : List (E2 × E2)) (vs : List E2) : (bothE ps vs).depth ≤ 60 := by
  have a := pDs_depth ps
  have b := eds_depth vs
  simp only [bothE, PyData.depth, PyData.depthAll]; omega
theorem dp_edsL {K : PySem.W.Frag} {H : Hp} {t : Addr} {es : List Ed} (h : H t = some (.lst (es.map fun p => V.ref p.1))) (he : ∀ p ∈ es, EdAt H p) : Dp K H (.ref t) (.list ((es.map (·.2)).map encE)) := by
  have := dp_edges (K := K) he
  rw [List.map_map]; exact .lst (SqL.of h) this
theorem od_edges {H : Hp} : ∀ {es : List Ed}, (∀ p ∈ es, EdAt H p) → OdAll H (es.map fun p => V.ref p.1) ((es.map (·.2)).map encE)
  | [], _ => .nil
  | q :: es, h => .cons (od_edge (h q List.mem_cons_self)) (od_edges fun r hr => h r (List.mem_cons_of_mem _ hr))
theorem eds_eds (vs : List E2) : (vs.map encE).map edOf = vs := by rw [List.map_map]; exact List.map_id _
theorem edB_enc {ns : List Str} {es : List E2} {e : E2} (h : EdOk ns e) (m : e ∈ es) : edB ns es (encE e) = true := by
  show ((decide (e.1 ∈ ns) && (decide (e.2 ∈ ns) && ltS e.1 e.2)) && decide ((e.1, e.2) ∈ es)) = true
  rw [decide_eq_true h.1, decide_eq_true h.2.1, h.2.2, decide_eq_true (show (e.1, e.2) ∈ es from m)]; rfl
theorem badE_good {ns : List Str} {es : List E2} : ∀ {vs : List E2} {seen : List E2}, vs.Nodup → (∀ e ∈ vs, EdOk ns e ∧ e ∈ es) → (∀ e ∈ vs, e ∉ seen) → badE ns es seen (vs.map encE) = none
  | [], _, _, _, _ => rfl
  | e :: vs, seen, nd, h, hs => by
    obtain ⟨n1, n2⟩ := List.nodup_cons.mp nd
    have b := edB_enc (h e List.mem_cons_self).1 (h e List.mem_cons_self).2
    have c : decide (edOf (encE e) ∈ seen) = false := decide_eq_false (hs e List.mem_cons_self)
    show (if (edB ns es (encE e) && !decide (edOf (encE e) ∈ seen)) = true then badE ns es (edOf (encE e) :: seen) (vs.map encE) else some (encE e)) = none
    rw [b, c]
    refine (if_pos rfl).trans (badE_good n2 (fun q hq => h q (List.mem_cons_of_mem _ hq)) fun q hq z => ?_)
    rcases List.mem_cons.mp z with z | z
    · exact n1 ((show q = e from z) ▸ hq)
    · exact hs q (List.mem_cons_of_mem _ hq) z
def spLaw (K : PySem.W.Frag) : Sp := fun vs H Q _ => ∃ (a : Addr) (ns : List Int), vs = [.ref a] ∧ SqL K H a (ns.map V.int) ∧ ns.length ≤ 63 ∧ ∀ H', Q (.bl true) H'
section
variable {P : Program} {w : World} {K : PySem.W.Frag} {mg : Str → Option Value} {base : Heap}
abbrev nLaw : List Str := ["_law_script", "_law_at", "_law_cell", "_law_source", "_law_names", "_law_edges", "_law_graph_here", "_law_k", "_law_record", "_law_some", "_law_kept", "_law_due", "_law_row", "_law_smaller", "_law_told_here", "_law_pair"]
theorem scLaw : FnScope nLaw ["_law_script"] (defScope sLaw) := ⟨rfl, rfl, rfl, by decide +kernel, rfl, by decide +kernel, by decide +kernel⟩
theorem ok_law {f fS fG fL fM fU fP fR fE fI fQ C Cr Ce : Addr} {fd fdS fdG fdL fdM fdU fdP fdR fdE fdI fdQ : FuncData} (F : Fun K "law" "law" sLaw f fd) (T : GTxt K mg C) (me : mg "enumerate" = none) (mrp : mg "repr" = none) (mt : mg "tuple" = none) (mso : mg "sorted" = none) (mr : mg "range" = none)
    (mS : mg "_law_source_of" = some (.ref fS)) (GS : FnOk P w K mg base CX0 1 fS fdS ["_law_cell"] spSource) (kS : PySem.W.keepIn K (.ref fS) = true) (bS : Binds K fdS ["_law_cell"] [])
    (mG : mg "_law_graph" = some (.ref fG)) (GG : FnOk P w K mg base CX0 3 fG fdG ["_law_source", "_law_most"] spGraph) (kG : PySem.W.keepIn K (.ref fG) = true) (bG : Binds K fdG ["_law_source", "_law_most"] [])
    (mL : mg "_law_full" = some (.ref fL)) (GL : FnOk P w K mg base CX0 3 fL fdL ["_law_source"] spFull) (kL : PySem.W.keepIn K (.ref fL) = true) (bL : Binds K fdL ["_law_source"] [])
    (mM : mg "_law_mixed" = some (.ref fM)) (GM : FnOk P w K mg base CX0 2 fM fdM ["_law_source", "_law_some"] (spMixed K)) (kM : PySem.W.keepIn K (.ref fM) = true) (bM : Binds K fdM ["_law_source", "_law_some"] [])
    (mU : mg "_law_subset" = some (.ref fU)) (GU : FnOk P w K mg base CX0 3 fU fdU ["_law_source", "_law_items"] spSubset) (kU : PySem.W.keepIn K (.ref fU) = true) (bU : Binds K fdU ["_law_source", "_law_items"] [])
    (mP : mg "_law_pairs" = some (.ref fP)) (GP : FnOk P w K mg base CX0 1 fP fdP ["_law_edges"] spLawPairs) (kP : PySem.W.keepIn K (.ref fP) = true) (bP : Binds K fdP ["_law_edges"] [])
    (mR : mg "restricted" = some (.ref fR)) (GR : FnOk P w K mg base (L2.CX P w) 6 fR fdR ["graph", "record", "edges"] (spRestr C Cr Ce)) (kR : PySem.W.keepIn K (.ref fR) = true) (bR : Binds K fdR ["graph", "record", "edges"] [])
    (mE : mg "_law_errors_right" = some (.ref fE)) (GE : FnG P w K mg base 8 fE fdE pErrR (spErrR C)) (kE : PySem.W.keepIn K (.ref fE) = true) (bE : Binds K fdE pErrR [])
    (MI : Mk K C fI) (GI : FnOk P w K mg base CX0 4 fI fdI ["self", "vertices", "edges"] (spInit C)) (bI : Binds K fdI ["self", "vertices", "edges"] [])
    (GQ : FnOk P w K mg base CX0 1 fQ fdQ ["self", "other"] (spGEq C)) (heq : PySem.W.findIn K (.ref C) "__eq__" = some (some (.ref fQ))) (hfn : PySem.W.isFn K (.ref fQ) = true) (hne : PySem.W.findIn K (.ref C) "__ne__" = some (some (.builtin "object.__ne__"))) (bQ : Binds K fdQ ["self", "other"] []) (hmo : PySem.W.mroIn K C (.type "object") = some true) :
    FnG P w K mg base 9 f fd ["_law_script"] (spLaw K) := by
  refine okG F scLaw (fun vs H Q E h => ?_) (fun cdv A outer s H vs Q E hr gds h => ?_)
  · obtain ⟨a, ns, rfl, _⟩ := h; rfl
  · obtain ⟨a, sc, rfl, hA, h63, k⟩ := h
    have hr1 : Room 1 _ := hr.mono (by decide)
    have hr2 : Room 2 _ := hr.mono (by decide)
    have hr3 : Room 3 _ := hr.mono (by decide)
    have hr5 : Room 5 _ := hr.mono (by decide)
    have hr6 : Room 6 _ := hr.mono (by decide)
    have hu65 := units65 hr
    refine ⟨_, pss_cons (ps_for PassesOwn.never rfl (pi_enumS (by rfl) me (pa_cons (pe_slice sl_list (pe_op op_catL (pv 0) (pe_lst (pa_cons pe_int (pa_cons pe_int (pa_cons pe_int pa_nil))))) po_none (po_some pe_int)) pa_nil)) (pg_tup rfl (pgs_cons (pg_name (i := 1) scLaw.nd rfl (Or.inl rfl)) (pgs_cons (pg_name (i := 2) scLaw.nd rfl (Or.inl rfl)) pgs_nil)))
        (pss_cons (ps_set (i := 3) scLaw.nd rfl (Or.inl rfl) (pe_call GS hr1 rfl mS kS bS .nil pass0 (pa_cons (pv 2) pa_nil)))
        (pss_cons (ps_asg (pe_call GG hr3 rfl mG kG bG .nil pass0 (pa_cons (pv 3) (pa_cons pe_int pa_nil))) (pg_tup rfl (pgs_cons (pg_name (i := 4) scLaw.nd rfl (Or.inl rfl)) (pgs_cons (pg_name (i := 5) scLaw.nd rfl (Or.inl rfl)) pgs_nil))))
        (pss_cons (ps_if (pt_cmpR op_eq (pv 1) pe_int (nomark _)) (pss_one (ps_asg (pe_call GL hr3 rfl mL kL bL .nil pass0 (pa_cons (pv 3) pa_nil)) (pg_tup rfl (pgs_cons (pg_name (i := 4) scLaw.nd rfl (Or.inl rfl)) (pgs_cons (pg_name (i := 5) scLaw.nd rfl (Or.inl rfl)) pgs_nil))))) pss_nil)
        (pss_cons (ps_set (i := 6) scLaw.nd rfl (Or.inl rfl) (pe_make MI GI hr5 rfl T.mg bI .nil pass0 (pa_cons (pv 4) (pa_cons (pv 5) pa_nil))))
        (pss_one (ps_for PassesOwn.never rfl (pi_range1 rfl mr (pa_cons pe_int pa_nil)) (pg_name (i := 7) scLaw.nd rfl (Or.inl rfl))
          (pss_cons (ps_set (i := 8) scLaw.nd rfl (Or.inl rfl) (pe_call GM hr2 rfl mM kM bM .nil pass0 (pa_cons (pv 3) (pa_cons (pe_call GU hr3 rfl mU kU bU .nil pass0 (pa_cons (pv 3) (pa_cons (pe_call GP hr1 rfl mP kP bP .nil pass0 (pa_cons (pv 5) pa_nil)) pa_nil))) pa_nil))))
          (pss_cons (ps_set (i := 9) scLaw.nd rfl (Or.inr rfl) (pe_call GM hr2 rfl mM kM bM .nil pass0 (pa_cons (pv 3) (pa_cons (pe_call GU hr3 rfl mU kU bU .nil pass0 (pa_cons (pv 3) (pa_cons (pv 5) pa_nil))) pa_nil))))
          (pss_cons (ps_set (i := 10) scLaw.nd rfl (Or.inl rfl) (pe_callB (call_reprD gds hr.units) (by rfl) mrp (by decide +kernel) (pa_cons (pe_tup (pa_cons (pv 8) (pa_cons (pv 9) pa_nil))) pa_nil)))
          (pss_cons (ps_set (i := 11) scLaw.nd rfl (Or.inl rfl) (pe_callB (cr_sortP hr.units) (by rfl) mso (by decide +kernel) (pa_cons (pe_lc (own := [("_law_pair", 15)]) (g := gName 15) rfl scLaw.nd (pi_list (pv 8)) (blkOk_by (own := [("_law_pair", 15)]) (N := nLaw) (sc := defScope sLaw) (by decide +kernel))
              (fun _ _ _ _ _ => pg_name (i := 15) scLaw.nd rfl (Or.inl rfl)) (fun _ _ _ _ _ => pts_one (PW.pt (pw_and (pt_cmpR (op_inER hu65) (pe_ix (ix_tup2 K rfl) (pv 15) pe_int (fun _ _ => rfl)) (pv 9) rfl) (pw_and1 (pt_cmpR (op_inER hu65) (pe_ix (ix_tup2 K rfl) (pv 15) pe_int (fun _ _ => rfl)) (pv 9) rfl))))) (fun _ _ _ _ _ => pv 15)) pa_nil)))
          (pss_cons (ps_for PassesOwn.never rfl (pi_tup (pe_tup (pa_cons (pv 9) (pa_cons (pe_callTy call_tuple_of (by rfl) mt (by decide +kernel) (pa_cons (pv 9) pa_nil)) pa_nil)))) (pg_name (i := 12) scLaw.nd rfl (Or.inl rfl))
            (pss_cons (ps_asg (pe_call GR hr6 rfl mR kR bR .nil passL (pa_cons (pv 6) (pa_cons (pv 8) (pa_cons (pv 12) pa_nil)))) (pg_tup rfl (pgs_cons (pg_name (i := 13) scLaw.nd rfl (Or.inl rfl)) (pgs_cons (pg_name (i := 14) scLaw.nd rfl (Or.inl rfl)) pgs_nil))))
            (pss_cons (ps_if (PW.pt (pw_or (pt_cmpR (op_neI GQ hr2 heq hfn hne bQ hmo) (pv 13) (pe_make MI GI hr5 rfl T.mg bI .nil pass0 (pa_cons (pv 4) (pa_cons (pv 9) pa_nil))) (nomark _))
                (pw_or (pt_cmpR (op_neD hr.units) (pv 14) (pv 11) (nomark _)) (pw_or1 (pt_cmpR (op_neD hr.units) (pe_fld (pv 13) rfl) (pe_callTy call_tuple_of (by rfl) mt (by decide +kernel) (pa_cons (pv 4) pa_nil)) (nomark _)))))) (pss_one (ps_ret pe_bl)) pss_nil)
            (pss_one (ps_expr (pe_bm PySem.F.plainAttrs_list PySem.F.slot_list_append PySem.F.type_list_append mt_append (pv 14) (pa_cons pe_non pa_nil)))))))
          (pss_one (ps_if (PW.pt (pw_or (pt_cmpR op_ne (pe_callB (call_reprD gds hr.units) (by rfl) mrp (by decide +kernel) (pa_cons (pe_tup (pa_cons (pv 8) (pa_cons (pv 9) pa_nil))) pa_nil)) (pv 10) (nomark _))
              (pw_or1 (pt_not (pt_val (pe_callG GE hr gds rfl mE kE bE (pa_cons (pv 3) (pa_cons (pv 6) (pa_cons (pv 8) (pa_cons (pv 5) (pa_cons (pv 9) pa_nil)))))))))))
            (pss_one (ps_ret pe_bl)) pss_nil))))))))))))))
      (pss_one (ps_ret pe_bl)), ?_⟩
    refine ⟨_, rfl, by show 3 ≤ sizeLine; decide, fun l1 hl1 => ?_⟩
    have s1 : Same H (L2.upd H l1 (.lst [.int 0, .int 1, .int 2])) := Same.new hl1
    refine ⟨a, l1, _, _, rfl, rfl, s1.seq hA, SqL.of upd_same, by rw [List.length_map, sizeLine_eq]; show sc.length + 3 ≤ _; omega, fun l2 hl2 => ?_⟩
    refine ⟨_, rfl, l2, _, rfl, SqL.of upd_same, fun l3 hl3 => ?_⟩
    have ec : cutV (sc.map V.int ++ [.int 0, .int 1, .int 2]) none (some 6) = ((sc ++ [0, 1, 2]).take (6 : Int).toNat).map V.int := by
      rw [cut_take _ _ (by decide), List.map_take, List.map_append]; rfl
    rw [ec]
    generalize (sc ++ [0, 1, 2]).take (6 : Int).toNat = cl
    generalize hH0 : L2.upd _ l3 (.lst (cl.map V.int)) = H0
    have L0 : H0 l3 = some (.lst (cl.map V.int)) := by rw [← hH0]; exact upd_same
    have hrow : RowAt H0 l3 (cl.map V.int) := .inl L0
    refine ⟨l3, _, rfl, hrow, fun J GG wk hG => for_it wk (fun i σ H' => (∃ v1 v2 v3 v4 v5 v6 v7 v8 v9 v10 v11 v12 v13 v14, σ = [some (.ref a), v1, v2, v3, v4, v5, v6, v7, v8, v9, v10, v11, v12, v13, v14, none]) ∧ Same H0 H')
      ⟨⟨_, _, _, _, _, _, _, _, _, _, _, _, _, _, rfl⟩, Same.refl _⟩ (fun i σ H' _ ⟨_, s⟩ => hG _ (hrow.eq s)) ?_ ?_⟩
    · rintro i y σ Ha Hb hi ⟨⟨v1, v2, v3, v4, v5, v6, v7, v8, v9, v10, v11, v12, v13, v14, rfl⟩, s01⟩ ⟨tt, x1, x2, rfl, ht, rfl, e1, e3⟩
      obtain rfl : V.int (i : Nat) = x1 := Option.some.inj e1
      have e3 : (cl.map V.int)[i]? = some x2 := e3
      obtain ⟨c, rfl⟩ : ∃ c, x2 = V.int c := by
        rw [List.getElem?_map] at e3
        cases e : cl[i]? with
        | none => rw [e] at e3; cases e3
        | some c => rw [e] at e3; exact ⟨c, (Option.some.inj e3).symm⟩
      have sT : Same Ha (L2.upd Ha tt (.tup [.int (i : Nat), .int c])) := Same.new ht
      have eT : (L2.upd Ha tt (.tup [.int (i : Nat), .int c])) tt = some (.tup [.int (i : Nat), .int c]) := upd_same
      generalize L2.upd Ha tt (.tup [.int (i : Nat), .int c]) = H1 at sT eT ⊢
      have s01 := s01.trans sT
      refine ⟨tt, _, rfl, SqT.of eT, rfl, _, _, rfl, _, _, rfl, rfl, ?_⟩
      refine ⟨_, rfl, c, rfl, fun p H2 hp S2 s12 => ?_⟩
      have p0 : H0 p = none := s01.free hp
      have s02 := s01.trans s12
      refine ⟨_, rfl, p, 7, rfl, by decide, by decide, S2, fun t n e ns ks H3 ht3 A3 nsub hn he S3 B3 => ?_⟩
      refine ⟨t, _, rfl, SqT.of ht3, rfl, _, _, rfl, _, _, rfl, rfl, ?_⟩
      refine ⟨_, rfl, rfl, _, rfl, if_k (fun σ' H4 => ∃ n e ns ks, σ' = [some (.ref a), some (.int (i : Nat)), some (.int c), some (.ref p), some (.ref n), some (.ref e), v6, v7, v8, v9, v10, v11, v12, v13, v14, none] ∧ ArgsOk H4 n e ns ks ∧ (∀ z ∈ ns, z ∈ base8) ∧ n ≠ p ∧ e ≠ p ∧ Src H4 p ∧ But p H2 H4) ?_ (fun rest => ⟨fun cc => ?_, fun cc => ?_⟩)⟩
      rotate_left
      · refine ⟨_, rfl, p, rfl, S3, fun t2 n2 e2 ns2 ks2 H4 ht4 A4 nsub2 hn2 he2 S4 B4 => ⟨t2, _, rfl, SqT.of ht4, rfl, _, _, rfl, _, _, rfl, rfl, rest _ _ ⟨n2, e2, ns2, ks2, rfl, A4, nsub2, S3.ne hn2, S3.ne he2, S4, B3.trans B4⟩⟩⟩
      · exact rest _ _ ⟨n, e, ns, ks, rfl, A3, nsub, S2.ne hn, S2.ne he, S3, B3⟩
      rintro σ4 H4 ⟨n, e, ns, ks, rfl, A4, nsub, np, ep, S4, B4⟩
      have s04 : Same H0 H4 := Same.but s02 p0 B4
      refine ⟨_, rfl, _, rfl, fun g dx hg hdx gdx => ?_⟩
      have sg : Same H4 (L2.upd (L2.upd H4 dx (.own g)) g (.ins C dx [])) := fun b o x => by rw [upd_ne (ne_of_none x hg), upd_ne (ne_of_none x hdx)]; exact x
      refine ⟨g, dx, n, e, ns, ks, rfl, upd_same, A4.row.same sg, fun H5 G5 k5 => ⟨rfl, ?_⟩⟩
      have s45 : Same H4 H5 := Same.made hg hdx fun c o x n => k5 c o n x
      have S5 := S4.but s45
      have A5 := A4.same s45
      have s05 := s04.trans s45
      have asc := asc_sort A4.en
      have pmS := perm_sort ks
      have elS : (sortE ks).length ≤ 18 := by rw [(sortE_perm ks).length_eq]; exact A4.el
      have eoS : ∀ f ∈ (sortE ks).map (·.2), EdOk ns f := fun f hf => by
        obtain ⟨r, hr, rfl⟩ := List.mem_map.mp hf
        exact A4.eo r ((sortE_perm ks).mem_iff.mp hr)
      have gok : GOk ns ((sortE ks).map (·.2)) := ⟨A4.n0, A4.n8, A4.nd, A4.nm, eoS, by rw [List.length_map]; exact elS, asc⟩
      have okK : ∀ q ∈ ks, OkE q.2 := fun q hq => gok.okE (pmS.mem_iff.mp (List.mem_map.mpr ⟨q, hq, rfl⟩))
      have kb : ∀ q ∈ ks, q.2.1 ∈ base8 ∧ q.2.2 ∈ base8 := fun q hq => ⟨nsub _ (A4.eo q hq).1, nsub _ (A4.eo q hq).2.1⟩
      have nOk : ∀ z ∈ ns, PyData.strOk z = true := fun z hz => (A4.nm z hz).strOk
      generalize hes : (sortE ks).map (·.2) = es at asc pmS eoS gok
      have gok' : GOk ns ((sortE ks).map (·.2)) := by rw [hes]; exact gok
      have inE : ∀ f ∈ es, f.1 ∈ base8 ∧ f.2 ∈ base8 := fun f hf => ⟨nsub _ (eoS f hf).1, nsub _ (eoS f hf).2.1⟩
      have okE : ∀ f ∈ es, OkE f := fun f hf => gok.okE hf
      refine ⟨3, rfl, by decide, by decide, for_range (n := 3) (fun j σ H' => (∃ v7 v8 v9 v10 v11 v12 v13 v14, σ = [some (.ref a), some (.int (i : Nat)), some (.int c), some (.ref p), some (.ref n), some (.ref e), some (.ref g), v7, v8, v9, v10, v11, v12, v13, v14, none]) ∧ But p H5 H' ∧ Src H' p)
        ⟨⟨_, _, _, _, _, _, _, _, rfl⟩, But.refl, S5⟩ ?_ ?_⟩
      rotate_left
      · rintro σ H9 ⟨⟨w7, w8, w9, w10, w11, w12, w13, w14, rfl⟩, B9, S9⟩
        exact ⟨⟨_, _, _, _, _, _, _, _, _, _, _, _, _, _, rfl⟩, Same.but s05 p0 B9⟩
      rintro j0 σ Hz hj0 ⟨⟨v7, v8, v9, v10, v11, v12, v13, v14, rfl⟩, B5z, Sz⟩
      have Az := A5.but S5 np ep B5z
      have Gz := G5.but S5 B5z
      -- the record
      refine ⟨_, rfl, _, rfl, _, rfl, e, ks, rfl, Az.ea, Az.ed, Az.el, fun kn H6 hkn R6 s56 => ?_⟩
      have R6 : PrsAt H6 kn (pairsOf es) := by
        have q : upTo (rowL ((sortE ks).map (·.2))) (sortE ks).length = pairsOf es := by
          rw [hes, upTo_congr (rows_same asc)]
          unfold pairsOf
          rw [← hes, List.length_map]
        rw [q] at R6; exact R6
      have S6 := Sz.but s56
      have knp : kn ≠ p := Sz.ne hkn
      obtain ⟨qs, q1, q2, q3⟩ := R6
      have qok : ∀ q ∈ qs, OkP (prV q) := fun q hq => okP_in okE (by rw [← q3]; exact List.mem_map.mpr ⟨q, hq, rfl⟩)
      have qsl : qs.length ≤ 153 := by
        have := pairs_few gok.el
        rw [← q3, List.length_map] at this; exact this
      have pitem : ∀ {Hx : Hp} {q : Pr}, PrAt Hx q → OkP (prV q) → Item Hx (.ref q.1) := fun {Hx q} h o => ⟨_, .tup h.ob (.cons (.tup h.one (.cons (.str o.1.1) (.cons (.str o.1.2) .nil))) (.cons (.tup h.two (.cons (.str o.2.1) (.cons (.str o.2.2) .nil))) .nil)), by simp [PyData.depth, PyData.depthAll]⟩
      have it6 : ∀ x ∈ qs.map (fun q => V.ref q.1), Item H6 x := fun x hx => by
        obtain ⟨q, hq, rfl⟩ := List.mem_map.mp hx
        exact pitem (q2 q hq) (qok q hq)
      refine ⟨p, kn, _, rfl, S6, knp.symm, q1, it6, by rw [List.length_map]; omega, fun u us H7 sub7 hu eu S7 B7 => ?_⟩
      have up : u ≠ p := S6.ne hu
      obtain ⟨js, jsub, rfl⟩ := List.sublist_map_iff.mp sub7
      refine ⟨p, u, _, rfl, S7, up.symm, eu, (fun x hx => (it6 x (sub7.subset hx)).but S6 B7), by rw [List.length_map]; have := jsub.length_le; omega, fun rc ys H8 pm8 hrc erc S8 B8 => ?_⟩
      have rcp : rc ≠ p := S7.ne hrc
      obtain ⟨is, pis, rfl⟩ := perm_map pm8 js rfl
      have B68 := B7.trans B8
      have R8 : PrsAt H8 rc (is.map prV) := by
        obtain ⟨x1, x2, x3, q⟩ := id S6
        refine ⟨is, erc, fun r hr => ?_, rfl⟩
        have h := q2 r (jsub.subset (pis.mem_iff.mp hr))
        exact ⟨B68 _ _ (ne_of h.ob q (fun z => by cases z)) h.ob, EdAt.but S6 B68 h.one, EdAt.but S6 B68 h.two⟩
      have nd : (is.map prV).Nodup := by
        have n1 : (qs.map prV).Nodup := by rw [q3]; exact asc_nd (pairs_asc asc)
        exact ((pis.map prV).nodup_iff).mpr (n1.sublist (jsub.map prV))
      have sub : ∀ q ∈ is.map prV, q ∈ pairsOf es := fun q hq => by
        rw [← q3]
        obtain ⟨r, hr, rfl⟩ := List.mem_map.mp hq
        exact List.mem_map.mpr ⟨r, jsub.subset (pis.mem_iff.mp hr), rfl⟩
      generalize is.map prV = ps at R8 nd sub
      have psl : ps.length ≤ 153 := Nat.le_trans (nodup_len nd sub) (pairs_few gok.el)
      have okp : ∀ q ∈ ps, OkP q := fun q hq => okP_in okE (sub q hq)
      have Bz8 : But p Hz H8 := (But.of_same s56).trans B68
      have A8 := Az.but Sz np ep Bz8
      have G8 := Gz.but Sz Bz8
      -- some edges
      have eit : ∀ {Hx : Hp}, ArgsOk Hx n e ns ks → ∀ x ∈ ks.map (fun q => V.ref q.1), Item Hx x := fun {Hx} Ax x hx => by
        obtain ⟨q, hq, rfl⟩ := List.mem_map.mp hx
        exact Item.edge (Ax.ed q hq) (okK q hq).1 (okK q hq).2
      refine ⟨_, rfl, _, rfl, _, rfl, p, e, _, rfl, S8, ep.symm, A8.ea, eit A8, by rw [List.length_map]; have := A4.el; omega, fun u2 us2 H9 sub9 hu2 eu2 S9 B9 => ?_⟩
      have u2p : u2 ≠ p := S8.ne hu2
      obtain ⟨es1, e1sub, rfl⟩ := List.sublist_map_iff.mp sub9
      refine ⟨p, u2, _, rfl, S9, u2p.symm, eu2, (fun x hx => (eit A8 x (sub9.subset hx)).but S8 B9), by rw [List.length_map]; have := e1sub.length_le; have := A4.el; omega, fun sm ys2 HA pmA hsm esm SA BA => ?_⟩
      have smp : sm ≠ p := S9.ne hsm
      obtain ⟨ws, pws, rfl⟩ := perm_map pmA es1 rfl
      have B8A := B9.trans BA
      have wsub : ∀ q ∈ ws, q ∈ ks := fun q hq => e1sub.subset (pws.mem_iff.mp hq)
      have wnd : (ws.map (·.2)).Nodup := ((pws.map (·.2)).nodup_iff).mpr (A4.en.sublist (e1sub.map (·.2)))
      have wsl : ws.length ≤ 18 := by rw [pws.length_eq]; exact Nat.le_trans e1sub.length_le A4.el
      have wok : ∀ f ∈ ws.map (·.2), EdOk ns f ∧ f ∈ es := fun f hf => by
        obtain ⟨q, hq, rfl⟩ := List.mem_map.mp hf
        exact ⟨A4.eo q (wsub q hq), pmS.mem_iff.mp (List.mem_map.mpr ⟨q, wsub q hq, rfl⟩)⟩
      have BzA := Bz8.trans B8A
      have AA := Az.but Sz np ep BzA
      have GA := Gz.but Sz BzA
      have RA := R8.but S8 rcp B8A
      have wed : ∀ q ∈ ws, EdAt HA q := fun q hq => AA.ed q (wsub q hq)
      have wokE : ∀ f ∈ ws.map (·.2), OkE f := fun f hf => okE f (wok f hf).2
      have wokQ : ∀ q ∈ ws, OkE q.2 := fun q hq => wokE _ (List.mem_map.mpr ⟨q, hq, rfl⟩)
      -- repr
      have blen : (bothE ps (ws.map (·.2))).shown.length ≤ sizeLine := bothE_len (fun q hq => ⟨inE _ (pairs_mem (sub q hq)).1, inE _ (pairs_mem (sub q hq)).2.1⟩) (fun v hv => inE v (wok v hv).2) (by omega) (by rw [List.length_map]; omega)
      have bnd := PyData.hasDict_of_canLay _ (bothE_lay okp wokE)
      have bshow := bothE_show ps (ws.map (·.2))
      have bdep := bothE_depth ps (ws.map (·.2))
      have bdp : ∀ {Hx : Hp} {t : Addr}, Hx t = some (.tup [.ref rc, .ref sm]) → PrsAt Hx rc ps → Hx sm = some (.lst (ws.map fun q => V.ref q.1)) → (∀ q ∈ ws, EdAt Hx q) → Dp K Hx (.ref t) (bothE ps (ws.map (·.2))) := fun h1 h2 h3 h4 => .tup (SqT.of h1) (.cons h2.dp (.cons (dp_edsL h3 h4) .nil))
      generalize bothE ps (ws.map (·.2)) = bd at blen bnd bshow bdep bdp
      refine ⟨_, rfl, _, rfl, by show 2 ≤ sizeLine; decide, fun t1 ht1 => ?_⟩
      have sB : Same HA (L2.upd HA t1 (.tup [.ref rc, .ref sm])) := Same.new ht1
      have eB : (L2.upd HA t1 (.tup [.ref rc, .ref sm])) t1 = some (.tup [.ref rc, .ref sm]) := upd_same
      generalize L2.upd HA t1 (.tup [.ref rc, .ref sm]) = HB at sB eB ⊢
      refine ⟨t1, bd, rfl, bdp eB (RA.kept sB) (sB _ _ esm) (fun q hq => sB _ _ (wed q hq)), bshow, bnd, bdep, blen, ?_⟩
      -- due
      obtain ⟨zq, y1, y2, y3⟩ := id (RA.kept sB)
      have zql : zq.length = ps.length := by rw [← y3, List.length_map]
      have zok : ∀ q ∈ zq, OkE q.2.1.2 ∧ OkE q.2.2.2 := fun q hq => by
        have m : prV q ∈ ps := by rw [← y3]; exact List.mem_map.mpr ⟨q, hq, rfl⟩
        exact okp _ m
      refine ⟨_, rfl, rc, rfl, ⟨_, SqL.of y1⟩, fun D hD => lc_list (K := K) (a := rc) (xs := zq.map fun q => V.ref q.1) (fun j H' => Same HB H' ∧ H' D = some (.lst (((zq.take j).filter (inB (ws.map (·.2)))).map fun q => V.ref q.1)))
        ⟨Same.new hD, upd_same⟩ (fun j H' _ ⟨s, _⟩ => SqL.of (s _ _ y1)) ?_ ?_⟩
      · rintro j yv Hx hj ⟨sX, eX⟩
        have lj : j < zq.length := by have := (List.getElem?_eq_some_iff.mp hj).1; rw [List.length_map] at this; exact this
        rw [List.getElem?_map, List.getElem?_eq_getElem lj] at hj
        obtain rfl : V.ref zq[j].1 = yv := Option.some.inj hj
        have mj := List.getElem_mem lj
        have pq := (y2 _ mj).same sX
        have sBX := sB.trans sX
        have er : RowAt Hx sm (ws.map fun q => V.ref q.1) := .inl (sBX _ _ esm)
        have ee : ∀ q ∈ ws, EdAt Hx q := fun q hq => sBX _ _ (wed q hq)
        have tk : zq.take (j + 1) = zq.take j ++ [zq[j]] := take_one (List.getElem?_eq_getElem lj)
        have hno : inB (ws.map (·.2)) zq[j] = false → Hx D = some (.lst (((zq.take (j + 1)).filter (inB (ws.map (·.2)))).map fun q => V.ref q.1)) := fun nn => by
          rw [tk, List.filter_append]
          have q : [zq[j]].filter (inB (ws.map (·.2))) = [] := by simp [nn]
          rw [q, List.append_nil]; exact eX
        refine ⟨rfl, _, rfl, zq[j].1, _, _, _, rfl, rfl, SqT.of pq.ob, (atI_nat (j := 0) rfl), _, rfl, zq[j].2.1, sm, ws, rfl, rfl, pq.one, er, ee, (zok _ mj).1, wokQ, _, rfl, ?_⟩
        cases c1 : decide (zq[j].2.1.2 ∈ ws.map (·.2)) with
        | false => exact iteF (iteF ⟨sX, hno (by unfold inB; rw [c1]; rfl)⟩)
        | true =>
          refine iteT ⟨_, rfl, zq[j].1, _, _, _, rfl, rfl, SqT.of pq.ob, (atI_nat (j := 1) rfl), _, rfl, zq[j].2.2, sm, ws, rfl, rfl, pq.two, er, ee, (zok _ mj).2, wokQ, _, rfl, ?_⟩
          cases c2 : decide (zq[j].2.2.2 ∈ ws.map (·.2)) with
          | false => exact iteF ⟨sX, hno (by unfold inB; rw [c2, Bool.and_false])⟩
          | true =>
            refine iteT ⟨_, rfl, _, eX, ?_, Same.grow hD sX, ?_⟩
            · rw [List.length_map, sizeLine_eq]
              have := List.length_filter_le (inB (ws.map (·.2))) (zq.take j)
              rw [List.length_take] at this; omega
            · rw [upd_same, tk, List.filter_append]
              have q : [zq[j]].filter (inB (ws.map (·.2))) = [zq[j]] := by
                have nn : inB (ws.map (·.2)) zq[j] = true := by unfold inB; rw [c1, c2]; rfl
                simp [nn]
              rw [q, List.map_append]; rfl
      rintro HC ⟨sC, eC⟩
      rw [List.length_map, List.take_length] at eC
      have fin : ∀ q ∈ zq.filter (inB (ws.map (·.2))), q ∈ zq := fun q hq => (List.mem_filter.mp hq).1
      have fmem : ∀ kk, kk ∈ (zq.filter (inB (ws.map (·.2)))).map prV ↔ kk ∈ ps ∧ kk.1 ∈ ws.map (·.2) ∧ kk.2 ∈ ws.map (·.2) := fun kk => by
        constructor
        · intro hk
          obtain ⟨q, hq, rfl⟩ := List.mem_map.mp hk
          obtain ⟨m1, m2⟩ := List.mem_filter.mp hq
          unfold inB at m2
          simp only [Bool.and_eq_true, decide_eq_true_eq] at m2
          exact ⟨by rw [← y3]; exact List.mem_map.mpr ⟨q, m1, rfl⟩, m2⟩
        · rintro ⟨hk, h1, h2⟩
          rw [← y3] at hk
          obtain ⟨q, hq, rfl⟩ := List.mem_map.mp hk
          refine List.mem_map.mpr ⟨q, List.mem_filter.mpr ⟨hq, ?_⟩, rfl⟩
          show (decide ((prV q).1 ∈ ws.map (·.2)) && decide ((prV q).2 ∈ ws.map (·.2))) = true
          rw [decide_eq_true h1, decide_eq_true h2]; rfl
      have fnd : ((zq.filter (inB (ws.map (·.2)))).map prV).Nodup := (List.Sublist.map prV (List.filter_sublist)).nodup (by rw [y3]; exact nd)
      have fl : (zq.filter (inB (ws.map (·.2)))).length ≤ 153 := by have := List.length_filter_le (inB (ws.map (·.2))) zq; omega
      generalize zq.filter (inB (ws.map (·.2))) = fq at eC fin fmem fnd fl
      refine ⟨D, fq, rfl, eC, (fun q hq => (y2 q (fin q hq)).same sC), by omega, fun ld hld => ?_⟩
      have sD : Same HC (L2.upd HC ld (.lst ((sortP fq).map fun q => V.ref q.1))) := Same.new hld
      have eD : (L2.upd HC ld (.lst ((sortP fq).map fun q => V.ref q.1))) ld = some (.lst ((sortP fq).map fun q => V.ref q.1)) := upd_same
      generalize L2.upd HC ld (.lst ((sortP fq).map fun q => V.ref q.1)) = HD at sD eD ⊢
      have sAD := sB.trans (sC.trans sD)
      have DD : PrsAt HD ld ((sortP fq).map prV) := ⟨sortP fq, eD, fun q hq => (y2 q (fin q ((sortP_perm fq).mem_iff.mp hq))).same (sC.trans sD), rfl⟩
      have dlt : ((sortP fq).map prV).Pairwise (fun p q => ltP p q = true) := sortP_lt fnd
      have dmem : ∀ kk, kk ∈ (sortP fq).map prV ↔ kk ∈ ps ∧ kk.1 ∈ ws.map (·.2) ∧ kk.2 ∈ ws.map (·.2) := fun kk => by rw [((sortP_perm fq).map prV).mem_iff]; exact fmem kk
      generalize (sortP fq).map prV = due at DD dlt dmem
      have dok : ∀ q ∈ due, OkP q := fun q hq => okp q ((dmem q).mp hq).1
      -- the two rows
      refine ⟨_, rfl, _, rfl, sm, _, rfl, .inl ⟨SqL.of (sAD _ _ esm), fun t2 ht2 => ?_⟩⟩
      have sE : Same HD (L2.upd HD t2 (.tup (ws.map fun q => V.ref q.1))) := Same.new ht2
      have eE : (L2.upd HD t2 (.tup (ws.map fun q => V.ref q.1))) t2 = some (.tup (ws.map fun q => V.ref q.1)) := upd_same
      generalize L2.upd HD t2 (.tup (ws.map fun q => V.ref q.1)) = HE at sE eE ⊢
      refine ⟨by show 2 ≤ sizeLine; decide, fun tr htr => ?_⟩
      have sF : Same HE (L2.upd HE tr (.tup [.ref sm, .ref t2])) := Same.new htr
      have eF : (L2.upd HE tr (.tup [.ref sm, .ref t2])) tr = some (.tup [.ref sm, .ref t2]) := upd_same
      generalize L2.upd HE tr (.tup [.ref sm, .ref t2]) = HF at sF eF ⊢
      have sDF := sE.trans sF
      have sAF := sAD.trans sDF
      have GF := GA.same sAF
      have RF := RA.kept sAF
      have DF := DD.kept sDF
      have AF := AA.same sAF
      have wF : ∀ q ∈ ws, EdAt HF q := fun q hq => sAF _ _ (wed q hq)
      have smF := sAF _ _ esm
      have rows : ∀ x ∈ [V.ref sm, .ref t2], ∃ d, Od HF x d ∧ itD d = some ((ws.map (·.2)).map encE) := fun x hx => by
        simp only [List.mem_cons, List.not_mem_nil, or_false] at hx
        rcases hx with rfl | rfl
        · exact ⟨.list ((ws.map (·.2)).map encE), .lst smF (od_edges wF), rfl⟩
        · exact ⟨.tuple ((ws.map (·.2)).map encE), .tup (sF _ _ eE) (od_edges wF), rfl⟩
      have rg1 : recBad ns ((sortE ks).map (·.2)) (.list (ps.map pD)) = none := by
        rw [hes, recBad_list, rec_good asc eoS nd sub (fun _ _ z => by cases z)]; rfl
      have lenL : ∀ ds, itD (.list (ps.map pD)) = some ds → ds.length < 200 := fun ds h => by
        obtain rfl : ps.map pD = ds := Option.some.inj h
        rw [List.length_map]; omega
      refine ⟨tr, rfl, ⟨_, SqT.of eF⟩, for_tup (K := K) (a := tr) (xs := [V.ref sm, .ref t2]) (fun j σ H' => (∃ w12 w13 w14, σ = [some (.ref a), some (.int (i : Nat)), some (.int c), some (.ref p), some (.ref n), some (.ref e), some (.ref g), some (.int (0 + (j0 : Int))), some (.ref rc), some (.ref sm), some (.str bd.shown), some (.ref ld), w12, w13, w14, none]) ∧ Same HF H') ⟨⟨_, _, _, rfl⟩, Same.refl _⟩ (fun j σ H' _ ⟨_, s⟩ => SqT.of (s _ _ eF)) ?_ ?_⟩
      · rintro j x σ HG hj ⟨⟨w12, w13, w14, rfl⟩, sG⟩
        obtain ⟨d2, o2, it2⟩ := rows x (List.mem_of_getElem? hj)
        have items2 : (itemsD d2).map edOf = ws.map (·.2) := by
          have : itemsD d2 = (ws.map (·.2)).map encE := by unfold itemsD; rw [it2]; rfl
          rw [this, eds_eds]
        have items1 : (itemsD (.list (ps.map pD))).map ppOf = ps := pps ps
        have bg : edsBad ns ((sortE ks).map (·.2)) d2 = none := by
          unfold edsBad; rw [it2, hes]
          exact badE_good wnd wok (fun _ _ z => by cases z)
        have len2 : ∀ ds, itD d2 = some ds → ds.length < 200 := fun ds h => by
          rw [it2] at h
          obtain rfl := Option.some.inj h
          rw [List.length_map, List.length_map]; omega
        refine ⟨_, rfl, _, rfl, _, rfl, g, ns, sortE ks, _, _, .list (ps.map pD), d2, rfl, GF.same sG, gok', (RF.kept sG).od, o2.same sG, lenL, len2, (fun i hi => by rw [rg1] at hi; cases hi), (fun _ b hb => by rw [bg] at hb; cases hb), fun _ _ t g' l ks' ps' HH et G' ek hl R' lt' mem' sH => ?_⟩
        rw [items2] at ek
        rw [items1, items2] at mem'
        refine ⟨t, _, rfl, SqT.of et, rfl, _, _, rfl, _, _, rfl, rfl, ?_⟩
        have sFH := sG.trans sH
        have AH := AF.same sFH
        have AR : ArgsR HH n sm ns ws := ⟨.inl AH.na, AH.n0, AH.n8, AH.nd, AH.nm, .inl (sFH _ _ smF), (fun q hq => sFH _ _ (wF q hq)), (fun q hq => A4.eo q (wsub q hq)), wnd, wsl⟩
        refine ⟨_, rfl, _, rfl, _, rfl, fun g2 dx2 hg2 hdx2 gdx2 => ?_⟩
        have sg2 : Same HH (L2.upd (L2.upd HH dx2 (.own g2)) g2 (.ins C dx2 [])) := fun b o x => by rw [upd_ne (ne_of_none x hg2), upd_ne (ne_of_none x hdx2)]; exact x
        refine ⟨g2, dx2, n, sm, ns, ws, rfl, upd_same, AR.same sg2, fun HI G2 k2 => ⟨rfl, ?_⟩⟩
        have sHI : Same HH HI := Same.made hg2 hdx2 fun c o x n => k2 c o n x
        have G1 := G'.same sHI
        obtain ⟨⟨da, ta, tb, ga, gb, gc⟩, gd⟩ := id G1
        obtain ⟨⟨db, tc, td, gi, gj, gk⟩, gl⟩ := id G2
        have vE : (sortE ks').map (·.2) = (sortE ws).map (·.2) := sortE_vals ek wnd
        have okW : ∀ f ∈ (sortE ws).map (·.2), OkE f := fun f hf => wokE f (((sortE_perm ws).map (·.2)).mem_iff.mp hf)
        refine ⟨g', g2, da, db, _, _, rfl, rfl, ga, gi, g', g2, ns, ns, _, _, rfl, G1, G2, nOk, nOk, (by rw [vE]; exact okW), okW, _, rfl, _, rfl, ?_⟩
        rw [decide_eq_true rfl, vE, decide_eq_true rfl]
        have sFI := sFH.trans sHI
        have RI := R'.kept sHI
        have DI := DF.kept sFI
        have pe : ps' = due := ascP_ext lt' dlt fun kk => by rw [mem', dmem]
        rw [pe] at RI
        refine iteF ⟨_, rfl, _, rfl, _, _, RI.dp, DI.dp, pDs_shaped dok, pDs_shaped dok, _, rfl, ?_⟩
        rw [eqv_pDs]
        have AI := AH.same sHI
        refine iteF ⟨_, rfl, g', C, da, _, _, rfl, ga, T.cl, T.nV, gf_v _ _, _, rfl, n, _, rfl, .inl ⟨SqL.of AI.na, fun t3 ht3 => ?_⟩⟩
        have sJ : Same HI (L2.upd HI t3 (.tup (ns.map V.str))) := Same.new ht3
        have eJ : (L2.upd HI t3 (.tup (ns.map V.str))) t3 = some (.tup (ns.map V.str)) := upd_same
        generalize L2.upd HI t3 (.tup (ns.map V.str)) = HJ at sJ eJ ⊢
        refine ⟨_, _, .tup (SqT.of (sJ _ _ gb)) (dp_txts ns), .tup (SqT.of eJ) (dp_txts ns), txts_shaped nOk, txts_shaped nOk, _, rfl, ?_⟩
        rw [eqvAll_txt, decide_eq_true rfl]
        obtain ⟨lq, lq1, lq2, lq3⟩ := id (RI.kept sJ)
        have lql : lq.length ≤ 153 := by
          have e1 := congrArg List.length lq3
          rw [List.length_map] at e1
          have := nodup_len (asc_nd dlt) (fun q hq => ((dmem q).mp hq).1)
          omega
        have hlF : HF l = none := sG.free hl
        refine iteF ⟨_, rfl, .inl ⟨rfl, _, SqL.of lq1⟩, l, _, _, rfl, rfl, lq1, by rw [List.length_map, sizeLine_eq]; omega, ⟨_, _, _, rfl⟩, Same.grow hlF (sFI.trans sJ)⟩
      · rintro σ HG ⟨⟨w12, w13, w14, rfl⟩, sG⟩
        refine ⟨_, rfl, _, rfl, by show 2 ≤ sizeLine; decide, fun t5 ht5 => ?_⟩
        have sN : Same HG (L2.upd HG t5 (.tup [.ref rc, .ref sm])) := Same.new ht5
        have eN : (L2.upd HG t5 (.tup [.ref rc, .ref sm])) t5 = some (.tup [.ref rc, .ref sm]) := upd_same
        generalize L2.upd HG t5 (.tup [.ref rc, .ref sm]) = HN at sN eN ⊢
        have sFN := sG.trans sN
        have sAN := sAF.trans sFN
        refine ⟨t5, bd, rfl, bdp eN (RF.kept sFN) (sFN _ _ smF) (fun q hq => sFN _ _ (wF q hq)), bshow, bnd, bdep, blen, ?_⟩
        refine ⟨_, rfl, rfl, _, rfl, ?_⟩
        rw [decide_eq_true rfl]
        have AN := AA.same sAN
        refine iteF ⟨_, rfl, _, rfl, _, rfl, _, rfl, _, rfl, p, g, e, rc, sm, ns, ks, ws, ps, rfl, SA.but sAN, ep, rcp, smp, AN.ea, AN.ed, A4.en, GA.same sAN, gok', nsub, RA.kept sAN, nd, (fun q hq => by rw [hes]; exact sub q hq), sAN _ _ esm, wsub, wsl, fun HO SO BO => ⟨_, rfl, iteF ?_⟩⟩
        exact ⟨⟨_, _, _, _, _, _, _, _, rfl⟩, (B5z.trans BzA).trans ((But.of_same sAN).trans BO), SO⟩
    · rintro σ H1 ⟨_, s01⟩
      exact k H1
end
end CP
namespace CP
open PySem L2
theorem exm_two {K : PySem.W.Frag} {A S : Addr} {r : Bool} {cd : ClassData} (b : PySem.W.subIn K (.ref S) (.type "BaseException") = some true) (c : PySem.W.clsIn K S = some cd) (t : PySem.W.typeIn K (.ref S) = some (.type "type")) (cA : ∃ cd, PySem.W.clsIn K A = some cd) (tA : PySem.W.typeIn K (.ref A) = some (.type "type")) (s : PySem.W.subIn K (.ref A) (.ref S) = some r) : PySem.W.exmOne K (.ref A) (.ref S) = some r := by
  obtain ⟨cdA, cA⟩ := cA
  have b' : (PySem.W.subIn K (.ref S) (.type "BaseException") == some true) = true := by rw [b]; rfl
  have t' : ((PySem.W.clsIn K S).isSome && PySem.W.typeIn K (.ref S) == some (.type "type")) = true := by rw [c, t]; rfl
  have tA' : ((PySem.W.clsIn K A).isSome && PySem.W.typeIn K (.ref A) == some (.type "type")) = true := by rw [cA, tA]; rfl
  first
    | (have q : PySem.W.exmOne K (.ref A) (.ref S) = if (PySem.W.subIn K (.ref S) (.type "BaseException") == some true) = true then (if ((PySem.W.clsIn K S).isSome && PySem.W.typeIn K (.ref S) == some (.type "type")) = true then PySem.W.subIn K (.ref A) (.ref S) else none) else none := rfl
       rw [q, if_pos b', if_pos t']; exact s)
    | (have q : PySem.W.exmOne K (.ref A) (.ref S) = if (PySem.W.subIn K (.ref S) (.type "BaseException") == some true) = true then (if ((PySem.W.clsIn K A).isSome && PySem.W.typeIn K (.ref A) == some (.type "type")) = true then PySem.W.subIn K (.ref A) (.ref S) else none) else none := rfl
       rw [q, if_pos b', if_pos tA']; exact s)
set_option maxHeartbeats 4000000 in
theorem all_mk {l : PySem.W.OpenLaw} {w : World} {K : PySem.W.Frag} {h : Heap} {mg : Str → Option Value} {fa C Cr Ce Cn fAp fRo fCo fNa fVe fEg fAm fJo fIe fIp fCk fCg fRs fSo fNe fOn fMi fGr fLp fSu fTo fFb fEr fFu fLa fIn fEq fI1 fI6 : Addr} (X : K.In h) (G : h.Ns mainGlobals mg) (hfa : mg "law" = some (.ref fa))
    {odAp anAp odRo anRo odCo anCo odNa anNa odVe anVe odEg anEg odAm anAm odJo anJo odIe anIe odIp anIp odCk anCk odCg anCg odRs anRs odSo anSo odNe anNe odOn anOn odMi anMi odGr anGr odLp anLp odSu anSu odTo anTo odFb anFb odEr anEr odFu anFu odLa anLa odIn anIn odEq anEq odI1 anI1 odI6 anI6 : Option Addr} {slAp slRo slCo slNa slVe slEg slAm slJo slIe slIp slCk slCg slRs slSo slNe slOn slMi slGr slLp slSu slTo slFb slEr slFu slLa slIn slEq slI1 slI6 : Array (Option Value)} {ocAp kVAp dcAp pmAp cdAp ctAp ocRo kVRo dcRo pmRo cdRo ctRo ocCo kVCo dcCo pmCo cdCo ctCo ocNa kVNa dcNa pmNa cdNa ctNa ocVe kVVe dcVe pmVe cdVe ctVe ocEg kVEg dcEg pmEg cdEg ctEg ocAm kVAm dcAm pmAm cdAm ctAm ocJo kVJo dcJo pmJo cdJo ctJo ocIe kVIe dcIe pmIe cdIe ctIe ocIp kVIp dcIp pmIp cdIp ctIp ocCk kVCk dcCk pmCk cdCk ctCk ocCg kVCg dcCg pmCg cdCg ctCg ocRs kVRs dcRs pmRs cdRs ctRs ocSo kVSo dcSo pmSo cdSo ctSo ocNe kVNe dcNe pmNe cdNe ctNe ocOn kVOn dcOn pmOn cdOn ctOn ocMi kVMi dcMi pmMi cdMi ctMi ocGr kVGr dcGr pmGr cdGr ctGr ocLp kVLp dcLp pmLp cdLp ctLp ocSu kVSu dcSu pmSu cdSu ctSu ocTo kVTo dcTo pmTo cdTo ctTo ocFb kVFb dcFb pmFb cdFb ctFb ocEr kVEr dcEr pmEr cdEr ctEr ocFu kVFu dcFu pmFu cdFu ctFu ocLa kVLa dcLa pmLa cdLa ctLa ocIn kVIn dcIn pmIn cdIn ctIn ocEq kVEq dcEq pmEq cdEq ctEq ocI1 kVI1 dcI1 pmI1 cdI1 ctI1 ocI6 kVI6 dcI6 pmI6 cdI6 ctI6 : Value} {t0 t1 t2 t3 : Tok}
    {nm1 q1 : Str} {N1 : Addr} {bs1 bm1 sub1 : List Value} {sn1 : List Str} {ab1 : Bool} {col1 : Option Bool} {dd1 : Option Addr} {k0_1 k1_1 k2_1 k3_1 k5_1 : Option Value} {cdt1 : ClassData}
    {nm6 q6 : Str} {N6 : Addr} {bs6 bm6 sub6 : List Value} {sn6 : List Str} {ab6 : Bool} {col6 : Option Bool} {dd6 : Option Addr} {k0_6 k1_6 k2_6 k3_6 k5_6 : Option Value} {cdt6 : ClassData}
    (aC : PySem.W.nsIn K mainGlobals "Graph" = some (some (.ref C)))
    (a_Cr : PySem.W.nsIn K mainGlobals "NoRecord" = some (some (.ref Cr)))
    (a_Ce : PySem.W.nsIn K mainGlobals "NoEdge" = some (some (.ref Ce)))
    (a_Cn : PySem.W.nsIn K mainGlobals "NoCarry" = some (some (.ref Cn)))
    (aAp : PySem.W.nsIn K mainGlobals "are_apart" = some (some (.ref fAp)))
    (lAp : K.lookup fAp = some ⟨ocAp, odAp, .func (PySem.W.fnOf "are_apart" "are_apart" (defArgs sApart) (defBody sApart) (defScope sApart) .none kVAp dcAp pmAp anAp cdAp ctAp), slAp⟩)
    (cAp : PySem.W.codeIn K cdAp "are_apart" = true)
    (kAp : PySem.W.keepIn K (.ref fAp) = true)
    (aRo : PySem.W.nsIn K mainGlobals "is_row" = some (some (.ref fRo)))
    (lRo : K.lookup fRo = some ⟨ocRo, odRo, .func (PySem.W.fnOf "is_row" "is_row" (defArgs sRow) (defBody sRow) (defScope sRow) .none kVRo dcRo pmRo anRo cdRo ctRo), slRo⟩)
    (cRo : PySem.W.codeIn K cdRo "is_row" = true)
    (kRo : PySem.W.keepIn K (.ref fRo) = true)
    (aCo : PySem.W.nsIn K mainGlobals "is_couple" = some (some (.ref fCo)))
    (lCo : K.lookup fCo = some ⟨ocCo, odCo, .func (PySem.W.fnOf "is_couple" "is_couple" (defArgs sCouple) (defBody sCouple) (defScope sCouple) .none kVCo dcCo pmCo anCo cdCo ctCo), slCo⟩)
    (cCo : PySem.W.codeIn K cdCo "is_couple" = true)
    (kCo : PySem.W.keepIn K (.ref fCo) = true)
    (aNa : PySem.W.nsIn K mainGlobals "is_name" = some (some (.ref fNa)))
    (lNa : K.lookup fNa = some ⟨ocNa, odNa, .func (PySem.W.fnOf "is_name" "is_name" (defArgs sName) (defBody sName) (defScope sName) .none kVNa dcNa pmNa anNa cdNa ctNa), slNa⟩)
    (cNa : PySem.W.codeIn K cdNa "is_name" = true)
    (kNa : PySem.W.keepIn K (.ref fNa) = true)
    (aVe : PySem.W.nsIn K mainGlobals "are_vertices" = some (some (.ref fVe)))
    (lVe : K.lookup fVe = some ⟨ocVe, odVe, .func (PySem.W.fnOf "are_vertices" "are_vertices" (defArgs sVerts) (defBody sVerts) (defScope sVerts) .none kVVe dcVe pmVe anVe cdVe ctVe), slVe⟩)
    (cVe : PySem.W.codeIn K cdVe "are_vertices" = true)
    (kVe : PySem.W.keepIn K (.ref fVe) = true)
    (aEg : PySem.W.nsIn K mainGlobals "are_edges" = some (some (.ref fEg)))
    (lEg : K.lookup fEg = some ⟨ocEg, odEg, .func (PySem.W.fnOf "are_edges" "are_edges" (defArgs sEdges) (defBody sEdges) (defScope sEdges) .none kVEg dcEg pmEg anEg cdEg ctEg), slEg⟩)
    (cEg : PySem.W.codeIn K cdEg "are_edges" = true)
    (kEg : PySem.W.keepIn K (.ref fEg) = true)
    (aAm : PySem.W.nsIn K mainGlobals "is_among" = some (some (.ref fAm)))
    (lAm : K.lookup fAm = some ⟨ocAm, odAm, .func (PySem.W.fnOf "is_among" "is_among" (defArgs sAmong) (defBody sAmong) (defScope sAmong) .none kVAm dcAm pmAm anAm cdAm ctAm), slAm⟩)
    (cAm : PySem.W.codeIn K cdAm "is_among" = true)
    (kAm : PySem.W.keepIn K (.ref fAm) = true)
    (aJo : PySem.W.nsIn K mainGlobals "joins" = some (some (.ref fJo)))
    (lJo : K.lookup fJo = some ⟨ocJo, odJo, .func (PySem.W.fnOf "joins" "joins" (defArgs sJoins) (defBody sJoins) (defScope sJoins) .none kVJo dcJo pmJo anJo cdJo ctJo), slJo⟩)
    (cJo : PySem.W.codeIn K cdJo "joins" = true)
    (kJo : PySem.W.keepIn K (.ref fJo) = true)
    (aIe : PySem.W.nsIn K mainGlobals "is_edge" = some (some (.ref fIe)))
    (lIe : K.lookup fIe = some ⟨ocIe, odIe, .func (PySem.W.fnOf "is_edge" "is_edge" (defArgs sIsEdge) (defBody sIsEdge) (defScope sIsEdge) .none kVIe dcIe pmIe anIe cdIe ctIe), slIe⟩)
    (cIe : PySem.W.codeIn K cdIe "is_edge" = true)
    (kIe : PySem.W.keepIn K (.ref fIe) = true)
    (aIp : PySem.W.nsIn K mainGlobals "is_pair" = some (some (.ref fIp)))
    (lIp : K.lookup fIp = some ⟨ocIp, odIp, .func (PySem.W.fnOf "is_pair" "is_pair" (defArgs sIsPair) (defBody sIsPair) (defScope sIsPair) .none kVIp dcIp pmIp anIp cdIp ctIp), slIp⟩)
    (cIp : PySem.W.codeIn K cdIp "is_pair" = true)
    (kIp : PySem.W.keepIn K (.ref fIp) = true)
    (aCk : PySem.W.nsIn K mainGlobals "check_record" = some (some (.ref fCk)))
    (lCk : K.lookup fCk = some ⟨ocCk, odCk, .func (PySem.W.fnOf "check_record" "check_record" (defArgs sCheckR) (defBody sCheckR) (defScope sCheckR) .none kVCk dcCk pmCk anCk cdCk ctCk), slCk⟩)
    (cCk : PySem.W.codeIn K cdCk "check_record" = true)
    (kCk : PySem.W.keepIn K (.ref fCk) = true)
    (aCg : PySem.W.nsIn K mainGlobals "check_edges" = some (some (.ref fCg)))
    (lCg : K.lookup fCg = some ⟨ocCg, odCg, .func (PySem.W.fnOf "check_edges" "check_edges" (defArgs sCheckE) (defBody sCheckE) (defScope sCheckE) .none kVCg dcCg pmCg anCg cdCg ctCg), slCg⟩)
    (cCg : PySem.W.codeIn K cdCg "check_edges" = true)
    (kCg : PySem.W.keepIn K (.ref fCg) = true)
    (aRs : PySem.W.nsIn K mainGlobals "restricted" = some (some (.ref fRs)))
    (lRs : K.lookup fRs = some ⟨ocRs, odRs, .func (PySem.W.fnOf "restricted" "restricted" (defArgs sRestr) (defBody sRestr) (defScope sRestr) .none kVRs dcRs pmRs anRs cdRs ctRs), slRs⟩)
    (cRs : PySem.W.codeIn K cdRs "restricted" = true)
    (kRs : PySem.W.keepIn K (.ref fRs) = true)
    (aSo : PySem.W.nsIn K mainGlobals "_law_source_of" = some (some (.ref fSo)))
    (lSo : K.lookup fSo = some ⟨ocSo, odSo, .func (PySem.W.fnOf "_law_source_of" "_law_source_of" (defArgs sSource) (defBody sSource) (defScope sSource) .none kVSo dcSo pmSo anSo cdSo ctSo), slSo⟩)
    (cSo : PySem.W.codeIn K cdSo "_law_source_of" = true)
    (kSo : PySem.W.keepIn K (.ref fSo) = true)
    (aNe : PySem.W.nsIn K mainGlobals "_law_next" = some (some (.ref fNe)))
    (lNe : K.lookup fNe = some ⟨ocNe, odNe, .func (PySem.W.fnOf "_law_next" "_law_next" (defArgs sNext) (defBody sNext) (defScope sNext) .none kVNe dcNe pmNe anNe cdNe ctNe), slNe⟩)
    (cNe : PySem.W.codeIn K cdNe "_law_next" = true)
    (kNe : PySem.W.keepIn K (.ref fNe) = true)
    (aOn : PySem.W.nsIn K mainGlobals "_law_one" = some (some (.ref fOn)))
    (lOn : K.lookup fOn = some ⟨ocOn, odOn, .func (PySem.W.fnOf "_law_one" "_law_one" (defArgs sOne) (defBody sOne) (defScope sOne) .none kVOn dcOn pmOn anOn cdOn ctOn), slOn⟩)
    (cOn : PySem.W.codeIn K cdOn "_law_one" = true)
    (kOn : PySem.W.keepIn K (.ref fOn) = true)
    (aMi : PySem.W.nsIn K mainGlobals "_law_mixed" = some (some (.ref fMi)))
    (lMi : K.lookup fMi = some ⟨ocMi, odMi, .func (PySem.W.fnOf "_law_mixed" "_law_mixed" (defArgs sMixed) (defBody sMixed) (defScope sMixed) .none kVMi dcMi pmMi anMi cdMi ctMi), slMi⟩)
    (cMi : PySem.W.codeIn K cdMi "_law_mixed" = true)
    (kMi : PySem.W.keepIn K (.ref fMi) = true)
    (aGr : PySem.W.nsIn K mainGlobals "_law_graph" = some (some (.ref fGr)))
    (lGr : K.lookup fGr = some ⟨ocGr, odGr, .func (PySem.W.fnOf "_law_graph" "_law_graph" (defArgs sGraph) (defBody sGraph) (defScope sGraph) .none kVGr dcGr pmGr anGr cdGr ctGr), slGr⟩)
    (cGr : PySem.W.codeIn K cdGr "_law_graph" = true)
    (kGr : PySem.W.keepIn K (.ref fGr) = true)
    (aLp : PySem.W.nsIn K mainGlobals "_law_pairs" = some (some (.ref fLp)))
    (lLp : K.lookup fLp = some ⟨ocLp, odLp, .func (PySem.W.fnOf "_law_pairs" "_law_pairs" (defArgs sLawPairs) (defBody sLawPairs) (defScope sLawPairs) .none kVLp dcLp pmLp anLp cdLp ctLp), slLp⟩)
    (cLp : PySem.W.codeIn K cdLp "_law_pairs" = true)
    (kLp : PySem.W.keepIn K (.ref fLp) = true)
    (aSu : PySem.W.nsIn K mainGlobals "_law_subset" = some (some (.ref fSu)))
    (lSu : K.lookup fSu = some ⟨ocSu, odSu, .func (PySem.W.fnOf "_law_subset" "_law_subset" (defArgs sSubset) (defBody sSubset) (defScope sSubset) .none kVSu dcSu pmSu anSu cdSu ctSu), slSu⟩)
    (cSu : PySem.W.codeIn K cdSu "_law_subset" = true)
    (kSu : PySem.W.keepIn K (.ref fSu) = true)
    (aTo : PySem.W.nsIn K mainGlobals "_law_told" = some (some (.ref fTo)))
    (lTo : K.lookup fTo = some ⟨ocTo, odTo, .func (PySem.W.fnOf "_law_told" "_law_told" (defArgs sTold) (defBody sTold) (defScope sTold) .none kVTo dcTo pmTo anTo cdTo ctTo), slTo⟩)
    (cTo : PySem.W.codeIn K cdTo "_law_told" = true)
    (kTo : PySem.W.keepIn K (.ref fTo) = true)
    (aFb : PySem.W.nsIn K mainGlobals "_law_first_bad" = some (some (.ref fFb)))
    (lFb : K.lookup fFb = some ⟨ocFb, odFb, .func (PySem.W.fnOf "_law_first_bad" "_law_first_bad" (defArgs sFirstBad) (defBody sFirstBad) (defScope sFirstBad) .none kVFb dcFb pmFb anFb cdFb ctFb), slFb⟩)
    (cFb : PySem.W.codeIn K cdFb "_law_first_bad" = true)
    (kFb : PySem.W.keepIn K (.ref fFb) = true)
    (aEr : PySem.W.nsIn K mainGlobals "_law_errors_right" = some (some (.ref fEr)))
    (lEr : K.lookup fEr = some ⟨ocEr, odEr, .func (PySem.W.fnOf "_law_errors_right" "_law_errors_right" (defArgs sErrR) (defBody sErrR) (defScope sErrR) .none kVEr dcEr pmEr anEr cdEr ctEr), slEr⟩)
    (cEr : PySem.W.codeIn K cdEr "_law_errors_right" = true)
    (kEr : PySem.W.keepIn K (.ref fEr) = true)
    (aFu : PySem.W.nsIn K mainGlobals "_law_full" = some (some (.ref fFu)))
    (lFu : K.lookup fFu = some ⟨ocFu, odFu, .func (PySem.W.fnOf "_law_full" "_law_full" (defArgs sFull) (defBody sFull) (defScope sFull) .none kVFu dcFu pmFu anFu cdFu ctFu), slFu⟩)
    (cFu : PySem.W.codeIn K cdFu "_law_full" = true)
    (kFu : PySem.W.keepIn K (.ref fFu) = true)
    (aLa : PySem.W.nsIn K mainGlobals "law" = some (some (.ref fLa)))
    (lLa : K.lookup fLa = some ⟨ocLa, odLa, .func (PySem.W.fnOf "law" "law" (defArgs sLaw) (defBody sLaw) (defScope sLaw) .none kVLa dcLa pmLa anLa cdLa ctLa), slLa⟩)
    (cLa : PySem.W.codeIn K cdLa "law" = true)
    (kLa : PySem.W.keepIn K (.ref fLa) = true)
    (aIn : PySem.W.findIn K (.ref C) "__init__" = some (some (.ref fIn)))
    (iIn : PySem.W.isFn K (.ref fIn) = true)
    (lIn : K.lookup fIn = some ⟨ocIn, odIn, .func (PySem.W.fnOf "__init__" "Graph.__init__" (defArgs sInit) (defBody sInit) (defScope sInit) .none kVIn dcIn pmIn anIn cdIn ctIn), slIn⟩)
    (cIn : PySem.W.codeIn K cdIn "Graph.__init__" = true)
    (kIn : PySem.W.keepIn K (.ref fIn) = true)
    (aEq : PySem.W.findIn K (.ref C) "__eq__" = some (some (.ref fEq)))
    (iEq : PySem.W.isFn K (.ref fEq) = true)
    (lEq : K.lookup fEq = some ⟨ocEq, odEq, .func (PySem.W.fnOf "__eq__" "Graph.__eq__" (defArgs sEq) (defBody sEq) (defScope sEq) .none kVEq dcEq pmEq anEq cdEq ctEq), slEq⟩)
    (cEq : PySem.W.codeIn K cdEq "Graph.__eq__" = true)
    (kEq : PySem.W.keepIn K (.ref fEq) = true)
    (aNeq : PySem.W.findIn K (.ref C) "__ne__" = some (some (.builtin "object.__ne__")))
    (aI1 : PySem.W.findIn K (.ref Cr) "__init__" = some (some (.ref fI1)))
    (tI1 : PySem.W.typeIn K (.ref fI1) = some (.type "function"))
    (lI1 : K.lookup fI1 = some ⟨ocI1, odI1, .func (PySem.W.fnOf "__init__" "NoRecord.__init__" (defArgs sI1) (defBody sI1) (defScope sI1) .none kVI1 dcI1 pmI1 anI1 cdI1 ctI1), slI1⟩)
    (cI1 : PySem.W.codeIn K cdI1 "NoRecord.__init__" = true)
    (kI1 : PySem.W.keepIn K (.ref fI1) = true)
    (aI6 : PySem.W.findIn K (.ref Ce) "__init__" = some (some (.ref fI6)))
    (tI6 : PySem.W.typeIn K (.ref fI6) = some (.type "function"))
    (lI6 : K.lookup fI6 = some ⟨ocI6, odI6, .func (PySem.W.fnOf "__init__" "NoEdge.__init__" (defArgs sI6) (defBody sI6) (defScope sI6) .none kVI6 dcI6 pmI6 anI6 cdI6 ctI6), slI6⟩)
    (cI6 : PySem.W.codeIn K cdI6 "NoEdge.__init__" = true)
    (kI6 : PySem.W.keepIn K (.ref fI6) = true)
    (pgC : PySem.W.plainGet K C Str.empty = true)
    (hdC : PySem.W.hasDictIn K C = true)
    (poC : PySem.W.plainOver K C = true)
    (saC : PySem.W.findIn K (.ref C) "__setattr__" = some (some (.builtin "object.__setattr__")))
    (mkC : PySem.W.makesIn K C = true)
    (kcC : PySem.W.keepIn K (.ref C) = true)
    (nV : PySem.W.findIn K (.ref C) "vertices" = some none)
    (nE : PySem.W.findIn K (.ref C) "edges" = some none)
    (caC : PySem.W.findIn K (.ref C) "__class__" = some (some (.builtin "object.__class__")))
    (moC : PySem.W.mroIn K C (.type "object") = some true)
    (kCC : PySem.W.kitOne K (.ref C) (.ref C) = some true)
    (ox1 : K.lookup Cr = some (PySem.excClassObj nm1 q1 Cr N1 bs1 bm1 true sn1 sub1 ab1 col1 dd1 k0_1 k1_1 k2_1 k3_1 k5_1 "ValueError.__new__"))
    (rv1 : PySem.HandSPX.refsVE bm1 = true)
    (sa1 : PySem.W.findIn K (.ref Cr) "__setattr__" = some (some (.builtin "object.__setattr__")))
    (ty1 : PySem.W.typeIn K (.ref Cr) = some (.type "type"))
    (kp1 : PySem.W.keepIn K (.ref Cr) = true)
    (fn1 : PySem.W.findIn K (.ref Cr) "at" = some none)
    (xcl1 : PySem.W.clsIn K Cr = some cdt1)
    (xga1 : PySem.W.findIn K (.ref Cr) "__getattribute__" = some (some (.builtin "BaseException.__getattribute__")))
    (xgg1 : PySem.W.findIn K (.ref Cr) "__getattr__" = some none)
    (xsb1 : PySem.W.subIn K (.ref Cr) (.type "BaseException") = some true)
    (xhd1 : PySem.W.hasDictIn K Cr = true)
    (xca1 : PySem.W.findIn K (.ref Cr) "__class__" = some (some (.builtin "object.__class__")))
    (xmo1 : PySem.W.mroIn K Cr (.type "object") = some true)
    (xss1 : PySem.W.subIn K (.ref Cr) (.ref Cr) = some true)
    (ox6 : K.lookup Ce = some (PySem.excClassObj nm6 q6 Ce N6 bs6 bm6 true sn6 sub6 ab6 col6 dd6 k0_6 k1_6 k2_6 k3_6 k5_6 "ValueError.__new__"))
    (rv6 : PySem.HandSPX.refsVE bm6 = true)
    (sa6 : PySem.W.findIn K (.ref Ce) "__setattr__" = some (some (.builtin "object.__setattr__")))
    (ty6 : PySem.W.typeIn K (.ref Ce) = some (.type "type"))
    (kp6 : PySem.W.keepIn K (.ref Ce) = true)
    (fn6 : PySem.W.findIn K (.ref Ce) "edge" = some none)
    (xcl6 : PySem.W.clsIn K Ce = some cdt6)
    (xga6 : PySem.W.findIn K (.ref Ce) "__getattribute__" = some (some (.builtin "BaseException.__getattribute__")))
    (xgg6 : PySem.W.findIn K (.ref Ce) "__getattr__" = some none)
    (xsb6 : PySem.W.subIn K (.ref Ce) (.type "BaseException") = some true)
    (xhd6 : PySem.W.hasDictIn K Ce = true)
    (xca6 : PySem.W.findIn K (.ref Ce) "__class__" = some (some (.builtin "object.__class__")))
    (xmo6 : PySem.W.mroIn K Ce (.type "object") = some true)
    (xss6 : PySem.W.subIn K (.ref Ce) (.ref Ce) = some true)
    (sg : PySem.W.specialIn K (.builtin "object.__class__") "__get__" = some (some (.builtin "getset_descriptor.__get__")))
    (tk : PySem.W.takesIn K (.builtin "object.__class__") = some true)
    (xer : PySem.W.subIn K (.ref Ce) (.ref Cr) = some false)
    (kER : PySem.W.kitOne K (.ref Ce) (.ref Cr) = some false)
    (kEN : PySem.W.kitOne K (.ref Ce) (.ref Cn) = some false)
    (z_len : PySem.W.nsIn K mainGlobals "len" = some none)
    (z_int : PySem.W.nsIn K mainGlobals "int" = some none)
    (z_list : PySem.W.nsIn K mainGlobals "list" = some none)
    (z_tuple : PySem.W.nsIn K mainGlobals "tuple" = some none)
    (z_isinstance : PySem.W.nsIn K mainGlobals "isinstance" = some none)
    (z_str : PySem.W.nsIn K mainGlobals "str" = some none)
    (z_all : PySem.W.nsIn K mainGlobals "all" = some none)
    (z_set : PySem.W.nsIn K mainGlobals "set" = some none)
    (z_sorted : PySem.W.nsIn K mainGlobals "sorted" = some none)
    (z_enumerate : PySem.W.nsIn K mainGlobals "enumerate" = some none)
    (z_min : PySem.W.nsIn K mainGlobals "min" = some none)
    (z_repr : PySem.W.nsIn K mainGlobals "repr" = some none)
    (z_range : PySem.W.nsIn K mainGlobals "range" = some none)
    (z_dict : PySem.W.nsIn K mainGlobals "dict" = some none)
    (x_LETTERS : PySem.W.nsIn K mainGlobals "LETTERS" = some (some (.str letters t0)))
    (x_LONGEST_NAME : PySem.W.nsIn K mainGlobals "LONGEST_NAME" = some (some (.int 8 t1)))
    (x_MOST_VERTICES : PySem.W.nsIn K mainGlobals "MOST_VERTICES" = some (some (.int 8 t2)))
    (x_MOST_EDGES : PySem.W.nsIn K mainGlobals "MOST_EDGES" = some (some (.int 18 t3))) :
    ∃ fd : FuncData, (∀ (s : Shared) (v : Value), BindsTo s fd ⟨[v], []⟩ [("_law_script", v)]) ∧ ∀ base : Heap, K.In base → base.Ns mainGlobals mg → FnG l.prog w K mg base 9 fa fd ["_law_script"] (spLaw K) := by
  have e := hfa.symm.trans (PySem.W.mg_of X G aLa)
  cases e
  have T : GTxt K mg C := ⟨⟨pgC, hdC, poC, saC⟩, nV, nE, PySem.W.mg_of X G aC⟩
  have FAp := fun_mk (st := sApart) lAp cAp kAp
  have bAp := FAp.binds (ps := ["one", "other"]) fun _ _ _ _ _ _ us hl => match us, hl with | [_, _], _ => rfl
  have mAp := PySem.W.mg_of X G aAp
  have FRo := fun_mk (st := sRow) lRo cRo kRo
  have bRo := FRo.binds (ps := ["value"]) fun _ _ _ _ _ _ us hl => match us, hl with | [_], _ => rfl
  have mRo := PySem.W.mg_of X G aRo
  have FCo := fun_mk (st := sCouple) lCo cCo kCo
  have bCo := FCo.binds (ps := ["value"]) fun _ _ _ _ _ _ us hl => match us, hl with | [_], _ => rfl
  have mCo := PySem.W.mg_of X G aCo
  have FNa := fun_mk (st := sName) lNa cNa kNa
  have bNa := FNa.binds (ps := ["value"]) fun _ _ _ _ _ _ us hl => match us, hl with | [_], _ => rfl
  have mNa := PySem.W.mg_of X G aNa
  have FVe := fun_mk (st := sVerts) lVe cVe kVe
  have bVe := FVe.binds (ps := ["value"]) fun _ _ _ _ _ _ us hl => match us, hl with | [_], _ => rfl
  have mVe := PySem.W.mg_of X G aVe
  have FEg := fun_mk (st := sEdges) lEg cEg kEg
  have bEg := FEg.binds (ps := ["vertices", "value"]) fun _ _ _ _ _ _ us hl => match us, hl with | [_, _], _ => rfl
  have mEg := PySem.W.mg_of X G aEg
  have FAm := fun_mk (st := sAmong) lAm cAm kAm
  have bAm := FAm.binds (ps := ["vertices", "value"]) fun _ _ _ _ _ _ us hl => match us, hl with | [_, _], _ => rfl
  have mAm := PySem.W.mg_of X G aAm
  have FJo := fun_mk (st := sJoins) lJo cJo kJo
  have bJo := FJo.binds (ps := ["vertices", "value"]) fun _ _ _ _ _ _ us hl => match us, hl with | [_, _], _ => rfl
  have mJo := PySem.W.mg_of X G aJo
  have FIe := fun_mk (st := sIsEdge) lIe cIe kIe
  have bIe := FIe.binds (ps := ["graph", "value"]) fun _ _ _ _ _ _ us hl => match us, hl with | [_, _], _ => rfl
  have mIe := PySem.W.mg_of X G aIe
  have FIp := fun_mk (st := sIsPair) lIp cIp kIp
  have bIp := FIp.binds (ps := ["graph", "value"]) fun _ _ _ _ _ _ us hl => match us, hl with | [_, _], _ => rfl
  have mIp := PySem.W.mg_of X G aIp
  have FCk := fun_mk (st := sCheckR) lCk cCk kCk
  have bCk := FCk.binds (ps := ["graph", "value"]) fun _ _ _ _ _ _ us hl => match us, hl with | [_, _], _ => rfl
  have mCk := PySem.W.mg_of X G aCk
  have FCg := fun_mk (st := sCheckE) lCg cCg kCg
  have bCg := FCg.binds (ps := ["graph", "value"]) fun _ _ _ _ _ _ us hl => match us, hl with | [_, _], _ => rfl
  have mCg := PySem.W.mg_of X G aCg
  have FRs := fun_mk (st := sRestr) lRs cRs kRs
  have bRs := FRs.binds (ps := ["graph", "record", "edges"]) fun _ _ _ _ _ _ us hl => match us, hl with | [_, _, _], _ => rfl
  have mRs := PySem.W.mg_of X G aRs
  have FSo := fun_mk (st := sSource) lSo cSo kSo
  have bSo := FSo.binds (ps := ["_law_cell"]) fun _ _ _ _ _ _ us hl => match us, hl with | [_], _ => rfl
  have mSo := PySem.W.mg_of X G aSo
  have FNe := fun_mk (st := sNext) lNe cNe kNe
  have bNe := FNe.binds (ps := ["_law_source", "_law_many"]) fun _ _ _ _ _ _ us hl => match us, hl with | [_, _], _ => rfl
  have mNe := PySem.W.mg_of X G aNe
  have FOn := fun_mk (st := sOne) lOn cOn kOn
  have bOn := FOn.binds (ps := ["_law_source", "_law_some"]) fun _ _ _ _ _ _ us hl => match us, hl with | [_, _], _ => rfl
  have mOn := PySem.W.mg_of X G aOn
  have FMi := fun_mk (st := sMixed) lMi cMi kMi
  have bMi := FMi.binds (ps := ["_law_source", "_law_some"]) fun _ _ _ _ _ _ us hl => match us, hl with | [_, _], _ => rfl
  have mMi := PySem.W.mg_of X G aMi
  have FGr := fun_mk (st := sGraph) lGr cGr kGr
  have bGr := FGr.binds (ps := ["_law_source", "_law_most"]) fun _ _ _ _ _ _ us hl => match us, hl with | [_, _], _ => rfl
  have mGr := PySem.W.mg_of X G aGr
  have FLp := fun_mk (st := sLawPairs) lLp cLp kLp
  have bLp := FLp.binds (ps := ["_law_edges"]) fun _ _ _ _ _ _ us hl => match us, hl with | [_], _ => rfl
  have mLp := PySem.W.mg_of X G aLp
  have FSu := fun_mk (st := sSubset) lSu cSu kSu
  have bSu := FSu.binds (ps := ["_law_source", "_law_items"]) fun _ _ _ _ _ _ us hl => match us, hl with | [_, _], _ => rfl
  have mSu := PySem.W.mg_of X G aSu
  have FTo := fun_mk (st := sTold) lTo cTo kTo
  have bTo := FTo.binds (ps := ["_law_graph_here", "_law_record", "_law_edges"]) fun _ _ _ _ _ _ us hl => match us, hl with | [_, _, _], _ => rfl
  have mTo := PySem.W.mg_of X G aTo
  have FFb := fun_mk (st := sFirstBad) lFb cFb kFb
  have bFb := FFb.binds (ps := ["_law_items", "_law_good"]) fun _ _ _ _ _ _ us hl => match us, hl with | [_, _], _ => rfl
  have mFb := PySem.W.mg_of X G aFb
  have FEr := fun_mk (st := sErrR) lEr cEr kEr
  have bEr := FEr.binds (ps := ["_law_source", "_law_graph_here", "_law_record", "_law_edges", "_law_some"]) fun _ _ _ _ _ _ us hl => match us, hl with | [_, _, _, _, _], _ => rfl
  have mEr := PySem.W.mg_of X G aEr
  have FFu := fun_mk (st := sFull) lFu cFu kFu
  have bFu := FFu.binds (ps := ["_law_source"]) fun _ _ _ _ _ _ us hl => match us, hl with | [_], _ => rfl
  have mFu := PySem.W.mg_of X G aFu
  have FLa := fun_mk (st := sLaw) lLa cLa kLa
  have FIn := fun_mk (st := sInit) lIn cIn kIn
  have bIn := FIn.binds (ps := ["self", "vertices", "edges"]) fun _ _ _ _ _ _ us hl => match us, hl with | [_, _, _], _ => rfl
  have FEq := fun_mk (st := sEq) lEq cEq kEq
  have bEq := FEq.binds (ps := ["self", "other"]) fun _ _ _ _ _ _ us hl => match us, hl with | [_, _], _ => rfl
  have FI1 := fun_mk (st := sI1) lI1 cI1 kI1
  have bI1 := FI1.binds (ps := ["self", "at"]) fun _ _ _ _ _ _ us hl => match us, hl with | [_, _], _ => rfl
  have O1 : OexC K Cr := ⟨⟨_, _, _, _, _, _, _, _, _, _, _, _, _, _, _, ox1, rv1⟩, sa1, xsb1, ty1, kp1⟩
  have X1 : XCls K Cr := ⟨by rw [xcl1]; rfl, xga1, xgg1, xsb1, xhd1, xca1, sg, tk, xmo1⟩
  have fX1 : XfC K Cr := ⟨xga1, xgg1, xsb1, xhd1⟩
  have GI1 : ∀ base : Heap, FnOk l.prog w K mg base CX0 1 fI1 _ ["self", "at"] (spXI Cr "at") := fun base => ok_I1 FI1 O1 fn1
  have FI6 := fun_mk (st := sI6) lI6 cI6 kI6
  have bI6 := FI6.binds (ps := ["self", "edge"]) fun _ _ _ _ _ _ us hl => match us, hl with | [_, _], _ => rfl
  have O6 : OexC K Ce := ⟨⟨_, _, _, _, _, _, _, _, _, _, _, _, _, _, _, ox6, rv6⟩, sa6, xsb6, ty6, kp6⟩
  have X6 : XCls K Ce := ⟨by rw [xcl6]; rfl, xga6, xgg6, xsb6, xhd6, xca6, sg, tk, xmo6⟩
  have fX6 : XfC K Ce := ⟨xga6, xgg6, xsb6, xhd6⟩
  have GI6 : ∀ base : Heap, FnOk l.prog w K mg base CX0 1 fI6 _ ["self", "edge"] (spXI Ce "edge") := fun base => ok_I6 FI6 O6 fn6
  have mCr := PySem.W.mg_of X G a_Cr
  have mCe := PySem.W.mg_of X G a_Ce
  have mCn := PySem.W.mg_of X G a_Cn
  have n_len := PySem.W.mg_none_of X G z_len
  have n_int := PySem.W.mg_none_of X G z_int
  have n_list := PySem.W.mg_none_of X G z_list
  have n_tuple := PySem.W.mg_none_of X G z_tuple
  have n_isinstance := PySem.W.mg_none_of X G z_isinstance
  have n_str := PySem.W.mg_none_of X G z_str
  have n_all := PySem.W.mg_none_of X G z_all
  have n_set := PySem.W.mg_none_of X G z_set
  have n_sorted := PySem.W.mg_none_of X G z_sorted
  have n_enumerate := PySem.W.mg_none_of X G z_enumerate
  have n_min := PySem.W.mg_none_of X G z_min
  have n_repr := PySem.W.mg_none_of X G z_repr
  have n_range := PySem.W.mg_none_of X G z_range
  have n_dict := PySem.W.mg_none_of X G z_dict
  have v_LETTERS := PySem.W.mg_of X G x_LETTERS
  have v_LONGEST_NAME := PySem.W.mg_of X G x_LONGEST_NAME
  have v_MOST_VERTICES := PySem.W.mg_of X G x_MOST_VERTICES
  have v_MOST_EDGES := PySem.W.mg_of X G x_MOST_EDGES
  have eRR := exm_two xsb1 xcl1 ty1 ⟨_, xcl1⟩ ty1 xss1
  have eER := exm_two xsb1 xcl1 ty1 ⟨_, xcl6⟩ ty6 xer
  have eEE := exm_two xsb6 xcl6 ty6 ⟨_, xcl6⟩ ty6 xss6
  have kE : PySem.W.kitAny K (.ref Ce) [.ref Cr, .ref Cn] = some false := kitAny_cons kER (fun _ => kitAny_cons kEN (fun _ => rfl) (fun z => nomatch z)) (fun z => nomatch z)
  refine ⟨PySem.W.fnOf "law" "law" (defArgs sLaw) (defBody sLaw) (defScope sLaw) .none kVLa dcLa pmLa anLa cdLa ctLa, fun s v => .of_eq rfl, fun base _ _ => ?_⟩
  have GNe : FnOk l.prog w K mg base CX0 1 fNe _ ["_law_source", "_law_many"] spNext := ok_next FNe
  have GOn : FnOk l.prog w K mg base CX0 2 fOn _ ["_law_source", "_law_some"] (spOne K) := ok_one FOn n_len mNe FNe bNe
  have GMi : FnOk l.prog w K mg base CX0 2 fMi _ ["_law_source", "_law_some"] (spMixed K) := ok_mixed FMi n_len n_list mNe FNe bNe
  have GRo : FnOk l.prog w K mg base CX0 1 fRo _ ["value"] spRow := ok_row FRo n_isinstance n_list n_tuple
  have GCo : FnOk l.prog w K mg base CX0 1 fCo _ ["value"] spCouple := ok_couple FCo n_isinstance n_len n_tuple
  have GAm : FnOk l.prog w K mg base CX0 1 fAm _ ["vertices", "value"] (spAmong K) := ok_among FAm n_isinstance n_str
  have GJo : FnOk l.prog w K mg base CX0 2 fJo _ ["vertices", "value"] (spJoins K) := ok_joins FJo mCo GCo kCo bCo mAm GAm kAm bAm
  have GNa : FnOk l.prog w K mg base CX0 1 fNa _ ["value"] spName := ok_name FNa n_isinstance n_str n_len n_all v_LETTERS v_LONGEST_NAME
  have GVe : FnOk l.prog w K mg base CX0 2 fVe _ ["value"] spVerts := ok_verts FVe n_len n_all n_set v_MOST_VERTICES mRo GRo kRo bRo mNa GNa kNa bNa
  have GEg : FnOk l.prog w K mg base CX0 3 fEg _ ["vertices", "value"] spEdges := ok_edges FEg n_len n_all n_set v_MOST_EDGES mRo GRo kRo bRo mJo GJo kJo bJo
  have GIn : FnOk l.prog w K mg base CX0 4 fIn _ ["self", "vertices", "edges"] (spInit C) := ok_init FIn T n_tuple n_sorted mVe GVe kVe bVe mEg GEg kEg bEg
  have GEq : FnOk l.prog w K mg base CX0 1 fEq _ ["self", "other"] (spGEq C) := ok_geq FEq T n_isinstance kCC caC sg tk moC
  have GAp : FnOk l.prog w K mg base CX0 1 fAp _ ["one", "other"] spApart := ok_apart FAp
  have GSo : FnOk l.prog w K mg base CX0 1 fSo _ ["_law_cell"] spSource := ok_source FSo n_int
  have GGr : FnOk l.prog w K mg base CX0 3 fGr _ ["_law_source", "_law_most"] spGraph := ok_graph FGr n_len n_min mNe GNe kNe bNe mMi GMi kMi bMi mOn GOn kOn bOn
  have GFu : FnOk l.prog w K mg base CX0 3 fFu _ ["_law_source"] spFull := ok_full FFu mMi GMi kMi bMi
  have HCo : FnOk l.prog w K mg base CX0 1 fCo _ ["value"] spCoupleG := ok_coupleG FCo n_isinstance n_len n_tuple
  have HAm : FnOk l.prog w K mg base CX0 1 fAm _ ["vertices", "value"] (spAmongG K) := ok_amongG FAm n_isinstance n_str
  have HJo : FnOk l.prog w K mg base CX0 2 fJo _ ["vertices", "value"] (spJoinsG K) := ok_joinsG FJo mCo HCo kCo bCo mAm HAm kAm bAm
  have HIe : FnOk l.prog w K mg base CX0 3 fIe _ ["graph", "value"] (spIsEdge C) := ok_isedge FIe T mJo HJo kJo bJo
  have HRo : FnOk l.prog w K mg base CX0 1 fRo _ ["value"] spRowG := ok_rowG FRo n_isinstance n_list n_tuple
  have HIp : FnOk l.prog w K mg base CX0 4 fIp _ ["graph", "value"] (spIsPair C) := ok_ispair FIp mCo HCo kCo bCo mIe HIe kIe bIe mAp GAp kAp bAp
  have HCk : FnOk l.prog w K mg base (L2.CX l.prog w) 5 fCk _ ["graph", "value"] (spCheckR C Cr) := ok_checkR FCk n_enumerate n_set mRo HRo kRo bRo mIp HIp kIp bIp mCr O1 aI1 tI1 (GI1 base) bI1
  have HCg : FnOk l.prog w K mg base (L2.CX l.prog w) 4 fCg _ ["graph", "value"] (spCheckE C Ce) := ok_checkE FCg n_set mRo HRo kRo bRo mIe HIe kIe bIe mCe O6 aI6 tI6 (GI6 base) bI6
  have HRs : FnOk l.prog w K mg base (L2.CX l.prog w) 6 fRs _ ["graph", "record", "edges"] (spRestr C Cr Ce) := ok_restr FRs T n_sorted mCk HCk kCk bCk mCg HCg kCg bCg ⟨mkC, aIn, iIn, kcC⟩ GIn bIn
  have HLp : FnOk l.prog w K mg base CX0 1 fLp _ ["_law_edges"] spLawPairs := ok_lawpairs FLp n_sorted
  have HSu : FnOk l.prog w K mg base CX0 3 fSu _ ["_law_source", "_law_items"] spSubset := ok_subset FSu n_list mNe GNe kNe bNe mOn GOn kOn bOn
  have HTo : FnG l.prog w K mg base 7 fTo _ pTold (spTold C) := ok_told FTo n_isinstance n_repr X1 fX1 fn1 X6 fX6 fn6 eRR eER eEE mCr mCn mCe kE mRs HRs kRs bRs
  have HFb : FnG l.prog w K mg base 1 fFb _ ["_law_items", "_law_good"] spFirstBad := ok_firstbad FFb n_enumerate n_repr
  have HEr : FnG l.prog w K mg base 8 fEr _ pErrR (spErrR C) := ok_errR FEr n_len n_list n_dict mNe GNe kNe bNe mOn GOn kOn bOn mTo HTo kTo bTo mFb HFb kFb bFb
  exact ok_law FLa T n_enumerate n_repr n_tuple n_sorted n_range mSo GSo kSo bSo mGr GGr kGr bGr mFu GFu kFu bFu mMi GMi kMi bMi mSu HSu kSu bSu mLp HLp kLp bLp mRs HRs kRs bRs mEr HEr kEr bEr ⟨mkC, aIn, iIn, kcC⟩ GIn bIn GEq aEq iEq aNeq bEq moC
theorem walk {l : PySem.W.OpenLaw} {q : Program} {loose : List Str} {XP : (Str → Option Value) → Heap → Prop} {YP : World → Heap → Prop} {d : DefRec} {K : Params → PySem.W.Frag} (hn : l.most = some 63) (hdf : d.params.defaults = [])
    (hY : ∀ (w : World) (h : Heap), YP w h → (K w.params).In h)
    (F : ∀ (w : World) (mg : Str → Option Value) (fa : Addr) (h : Heap), (K w.params).In h → h.Ns mainGlobals mg → mg d.name = some (.ref fa) →
      ∃ fd : FuncData, (∀ (s : Shared) (u : Value), BindsTo s fd ⟨[u], []⟩ [("_law_script", u)]) ∧ ∀ base : Heap, (K w.params).In base → base.Ns mainGlobals mg → FnG l.prog w (K w.params) mg base 9 fa fd ["_law_script"] (spLaw (K w.params))) :
    PySem.W.WalkO q loose XP YP l.row.toRowW d [] (fun f vs => PySem.call f vs) :=
  walkG (n := 63) (k := 9) (x := "_law_script") (sp := spLaw) hn (by decide) hdf ⟨rfl, by decide, by decide⟩ hY F (fun _ _ a ns hl hS => ⟨a, ns, rfl, hS, hl, fun _ => rfl⟩)
end CP
open PySem PySem.W PyProof.Rows
set_option maxRecDepth 100000 in
set_option maxHeartbeats 0 in
theorem PySem.Challenge.cw_crossparity_k57_records_of_subgraphs_holds : PySem.Challenge.rw_crossparity_k57_records_of_subgraphs.Holds := by
  w_on; o_law; k_head; (case hw => w_witness2)
  k_fill
  refine CP.walk (l := PySem.Challenge.rw_crossparity_k57_records_of_subgraphs) rfl rfl (fun w h Y => PySem.W.kIn_of Y) ?F
  case F =>
    intro w mg fa h KX G hmg
    refine' CP.all_mk KX G hmg ?aC ?a_Cr ?a_Ce ?a_Cn ?aAp ?lAp ?cAp ?kAp ?aRo ?lRo ?cRo ?kRo ?aCo ?lCo ?cCo ?kCo ?aNa ?lNa ?cNa ?kNa ?aVe ?lVe ?cVe ?kVe ?aEg ?lEg ?cEg ?kEg ?aAm ?lAm ?cAm ?kAm ?aJo ?lJo ?cJo ?kJo ?aIe ?lIe ?cIe ?kIe ?aIp ?lIp ?cIp ?kIp ?aCk ?lCk ?cCk ?kCk ?aCg ?lCg ?cCg ?kCg ?aRs ?lRs ?cRs ?kRs ?aSo ?lSo ?cSo ?kSo ?aNe ?lNe ?cNe ?kNe ?aOn ?lOn ?cOn ?kOn ?aMi ?lMi ?cMi ?kMi ?aGr ?lGr ?cGr ?kGr ?aLp ?lLp ?cLp ?kLp ?aSu ?lSu ?cSu ?kSu ?aTo ?lTo ?cTo ?kTo ?aFb ?lFb ?cFb ?kFb ?aEr ?lEr ?cEr ?kEr ?aFu ?lFu ?cFu ?kFu ?aLa ?lLa ?cLa ?kLa ?aIn ?iIn ?lIn ?cIn ?kIn ?aEq ?iEq ?lEq ?cEq ?kEq ?aNeq ?aI1 ?tI1 ?lI1 ?cI1 ?kI1 ?aI6 ?tI6 ?lI6 ?cI6 ?kI6 ?pgC ?hdC ?poC ?saC ?mkC ?kcC ?nV ?nE ?caC ?moC ?kCC ?ox1 ?rv1 ?sa1 ?ty1 ?kp1 ?fn1 ?xcl1 ?xga1 ?xgg1 ?xsb1 ?xhd1 ?xca1 ?xmo1 ?xss1 ?ox6 ?rv6 ?sa6 ?ty6 ?kp6 ?fn6 ?xcl6 ?xga6 ?xgg6 ?xsb6 ?xhd6 ?xca6 ?xmo6 ?xss6 ?sg ?tk ?xer ?kER ?kEN ?z_len ?z_int ?z_list ?z_tuple ?z_isinstance ?z_str ?z_all ?z_set ?z_sorted ?z_enumerate ?z_min ?z_repr ?z_range ?z_dict ?x_LETTERS ?x_LONGEST_NAME ?x_MOST_VERTICES ?x_MOST_EDGES
    (case aC => k_is)
    (case a_Cr => k_is)
    (case a_Ce => k_is)
    (case a_Cn => k_is)
    (case aAp => k_is)
    (case lAp => k_is)
    (case cAp => k_is)
    (case kAp => k_is)
    (case aRo => k_is)
    (case lRo => k_is)
    (case cRo => k_is)
    (case kRo => k_is)
    (case aCo => k_is)
    (case lCo => k_is)
    (case cCo => k_is)
    (case kCo => k_is)
    (case aNa => k_is)
    (case lNa => k_is)
    (case cNa => k_is)
    (case kNa => k_is)
    (case aVe => k_is)
    (case lVe => k_is)
    (case cVe => k_is)
    (case kVe => k_is)
    (case aEg => k_is)
    (case lEg => k_is)
    (case cEg => k_is)
    (case kEg => k_is)
    (case aAm => k_is)
    (case lAm => k_is)
    (case cAm => k_is)
    (case kAm => k_is)
    (case aJo => k_is)
    (case lJo => k_is)
    (case cJo => k_is)
    (case kJo => k_is)
    (case aIe => k_is)
    (case lIe => k_is)
    (case cIe => k_is)
    (case kIe => k_is)
    (case aIp => k_is)
    (case lIp => k_is)
    (case cIp => k_is)
    (case kIp => k_is)
    (case aCk => k_is)
    (case lCk => k_is)
    (case cCk => k_is)
    (case kCk => k_is)
    (case aCg => k_is)
    (case lCg => k_is)
    (case cCg => k_is)
    (case kCg => k_is)
    (case aRs => k_is)
    (case lRs => k_is)
    (case cRs => k_is)
    (case kRs => k_is)
    (case aSo => k_is)
    (case lSo => k_is)
    (case cSo => k_is)
    (case kSo => k_is)
    (case aNe => k_is)
    (case lNe => k_is)
    (case cNe => k_is)
    (case kNe => k_is)
    (case aOn => k_is)
    (case lOn => k_is)
    (case cOn => k_is)
    (case kOn => k_is)
    (case aMi => k_is)
    (case lMi => k_is)
    (case cMi => k_is)
    (case kMi => k_is)
    (case aGr => k_is)
    (case lGr => k_is)
    (case cGr => k_is)
    (case kGr => k_is)
    (case aLp => k_is)
    (case lLp => k_is)
    (case cLp => k_is)
    (case kLp => k_is)
    (case aSu => k_is)
    (case lSu => k_is)
    (case cSu => k_is)
    (case kSu => k_is)
    (case aTo => k_is)
    (case lTo => k_is)
    (case cTo => k_is)
    (case kTo => k_is)
    (case aFb => k_is)
    (case lFb => k_is)
    (case cFb => k_is)
    (case kFb => k_is)
    (case aEr => k_is)
    (case lEr => k_is)
    (case cEr => k_is)
    (case kEr => k_is)
    (case aFu => k_is)
    (case lFu => k_is)
    (case cFu => k_is)
    (case kFu => k_is)
    (case aLa => k_is)
    (case lLa => k_is)
    (case cLa => k_is)
    (case kLa => k_is)
    (case aIn => k_is)
    (case iIn => k_is)
    (case lIn => k_is)
    (case cIn => k_is)
    (case kIn => k_is)
    (case aEq => k_is)
    (case iEq => k_is)
    (case lEq => k_is)
    (case cEq => k_is)
    (case kEq => k_is)
    (case aNeq => k_is)
    (case aI1 => k_is)
    (case tI1 => k_is)
    (case lI1 => k_is)
    (case cI1 => k_is)
    (case kI1 => k_is)
    (case aI6 => k_is)
    (case tI6 => k_is)
    (case lI6 => k_is)
    (case cI6 => k_is)
    (case kI6 => k_is)
    (case pgC => k_is)
    (case hdC => k_is)
    (case poC => k_is)
    (case saC => k_is)
    (case mkC => k_is)
    (case kcC => k_is)
    (case nV => k_is)
    (case nE => k_is)
    (case caC => k_is)
    (case moC => k_is)
    (case kCC => kit_is)
    (case ox1 => k_is)
    (case rv1 => decide +kernel)
    (case sa1 => k_is)
    (case ty1 => k_is)
    (case kp1 => k_is)
    (case fn1 => k_is)
    (case xcl1 => k_is)
    (case xga1 => k_is)
    (case xgg1 => k_is)
    (case xsb1 => k_is)
    (case xhd1 => k_is)
    (case xca1 => k_is)
    (case xmo1 => k_is)
    (case xss1 => k_is)
    (case ox6 => k_is)
    (case rv6 => decide +kernel)
    (case sa6 => k_is)
    (case ty6 => k_is)
    (case kp6 => k_is)
    (case fn6 => k_is)
    (case xcl6 => k_is)
    (case xga6 => k_is)
    (case xgg6 => k_is)
    (case xsb6 => k_is)
    (case xhd6 => k_is)
    (case xca6 => k_is)
    (case xmo6 => k_is)
    (case xss6 => k_is)
    (case sg => k_is)
    (case tk => k_is)
    (case xer => k_is)
    (case kER => kit_is)
    (case kEN => kit_is)
    (case z_len => k_is)
    (case z_int => k_is)
    (case z_list => k_is)
    (case z_tuple => k_is)
    (case z_isinstance => k_is)
    (case z_str => k_is)
    (case z_all => k_is)
    (case z_set => k_is)
    (case z_sorted => k_is)
    (case z_enumerate => k_is)
    (case z_min => k_is)
    (case z_repr => k_is)
    (case z_range => k_is)
    (case z_dict => k_is)
    (case x_LETTERS => k_is)
    (case x_LONGEST_NAME => k_is)
    (case x_MOST_VERTICES => k_is)
    (case x_MOST_EDGES => k_is)
