import PyProof.Rows.All
import Wide.All
import OpenK.AllK
import Wide.FinOn
import HandS.ForMost
import HandS.TupSets
import HandS.Strs
import HandS.SetKeys
import KE.KeyNested
import KE.KDictKeyed
import HandS.DictComp
import HandS.Walk
import PyProof.ReprRoads
import HandS.ExcInit
import HandS.ExcOwn
import HandS.ExcBuiltin
import HandS.ExcField
import HandS.IsInst
import KE.KExcIs
import HandS.OwnEq
import PyProof.InstNe
import KE.SortData
import HandS.TryOnly
import KE.GoesMore
import KE.DataMinMax
import HandS.More
import HandS.Iter
import KE.KDictPairs
import KE.KDictZip
import PyProof.ListStr
import HandS.Style
import KE.RegKIsAll
import PySem.Challenge.RW_crossparity_k01_graphs_constructed
set_option Elab.async false
set_option linter.all false
set_option maxRecDepth 100000
set_option maxHeartbeats 4000000
/-! Tables of sets with up to 512 places -/
namespace CP
open PySem PySem.Spec PyProof.Rows L2
def MaskG (m : Nat) : Prop := m = 7 ∨ m = 31 ∨ m = 127 ∨ m = 511
/-- the numbers met from 0, as bits -/
def met (m : Nat) : Nat → Nat → Nat → Nat
  | 0, _, acc => acc
  | k + 1, c, acc => met m k ((c * 5 + 1) % (m + 1)) (acc ||| 2 ^ c)
theorem met_bit (m : Nat) : ∀ (k a acc j : Nat), (met m k (lcgN m a) acc).testBit j = true → acc.testBit j = true ∨ ∃ b, a ≤ b ∧ b < a + k ∧ lcgN m b = j
  | 0, a, acc, j, h => .inl h
  | k + 1, a, acc, j, h => by
    have h' : (met m k (lcgN m (a + 1)) (acc ||| 2 ^ lcgN m a)).testBit j = true := h
    rcases met_bit m k (a + 1) _ j h' with c | ⟨b, b1, b2, b3⟩
    · rw [Nat.testBit_or, Bool.or_eq_true] at c
      rcases c with c | c
      · exact .inl c
      · rw [Nat.testBit_two_pow] at c
        exact .inr ⟨a, Nat.le_refl _, by omega, of_decide_eq_true c⟩
    · exact .inr ⟨b, by omega, by omega, b3⟩
theorem met_all {m : Nat} (hm : MaskG m) : met m (m + 1) 0 0 = 2 ^ (m + 1) - 1 := by
  rcases hm with rfl | rfl | rfl | rfl <;> decide +kernel
theorem met_back {m : Nat} (hm : MaskG m) : lcgN m (m + 1) = 0 := by
  rcases hm with rfl | rfl | rfl | rfl <;> decide +kernel
theorem odd_mask {m : Nat} (hm : MaskG m) : m % 2 = 1 := by
  rcases hm with rfl | rfl | rfl | rfl <;> rfl
theorem from0 {m : Nat} (hm : MaskG m) {j : Nat} (hj : j ≤ m) : ∃ b, b ≤ m ∧ lcgN m b = j := by
  have e : (met m (m + 1) (lcgN m 0) 0).testBit j = true := by
    show (met m (m + 1) 0 0).testBit j = true
    rw [met_all hm, Nat.testBit_two_pow_sub_one]
    exact decide_eq_true (by omega)
  rcases met_bit m (m + 1) 0 0 j e with c | ⟨b, _, b2, b3⟩
  · simp at c
  · exact ⟨b, by omega, b3⟩
theorem again {m : Nat} (hm : MaskG m) : ∀ k, lcgN m (m + 1 + k) = lcgN m k
  | 0 => met_back hm
  | k + 1 => by
    have ih := again hm k
    show ((lcgN m (m + 1 + k)) * 5 + 1) % (m + 1) = ((lcgN m k) * 5 + 1) % (m + 1)
    rw [ih]
theorem from_any {m : Nat} (hm : MaskG m) {i j : Nat} (hi : i ≤ m) (hj : j ≤ m) : ∃ k, k ≤ m ∧ lcgI m i k = j := by
  obtain ⟨a, ha, rfl⟩ := from0 hm hi
  obtain ⟨b, hb, rfl⟩ := from0 hm hj
  by_cases c : a ≤ b
  · exact ⟨b - a, by omega, by rw [lcgN_add, Nat.add_sub_cancel' c]⟩
  · refine ⟨m + 1 + b - a, by omega, ?_⟩
    rw [lcgN_add, Nat.add_sub_cancel' (by omega), again hm]
theorem runs_meet {m : Nat} (hm : MaskG m) (h : Int) {j : Nat} (hj : j ≤ m) : ∃ n, n ≤ m + 12 ∧ runI m (SetTable.bits h) n = j := by
  obtain ⟨k, hk, rfl⟩ := from_any hm (runI_le m (SetTable.bits h) 12) hj
  refine ⟨12 + k, by omega, runI_tail (bits_lt h) k⟩
theorem way_most (m : Nat) (h : Int) (k : Nat) : way m h k ≤ m := by
  have a : SetTable.bits h % (m + 1) ≤ m := Nat.le_of_lt_succ (Nat.mod_lt _ (Nat.succ_pos _))
  have r := runEnd_bd a
  have q := nth_in (m := m) k (runAt m (SetTable.bits h % (m + 1)) (SetTable.bits h))
  have q := q (by show SetTable.bits h % (m + 1) + (SetTable.runEnd m (SetTable.bits h % (m + 1)) - SetTable.bits h % (m + 1)) ≤ m; omega)
  exact Nat.le_trans (Nat.le_add_right _ _) q
theorem ways_meet {m : Nat} (hm : MaskG m) (h : Int) {j : Nat} (hj : j ≤ m) : ∃ k, k < 10 * SetTable.turns m ∧ way m h k = j := by
  obtain ⟨n, hn, e⟩ := runs_meet hm h hj
  obtain ⟨k, hk, q⟩ := run_nth m (SetTable.bits h) n
  refine ⟨k, by unfold SetTable.turns; omega, ?_⟩
  unfold way; rw [q]; exact e
/-- a table in which each place is met from its hash -/
structure TabG (t : SetTable) (hs : List Int) : Prop where
  ris : Ris t.place.toList
  dm : t.dummies = #[]
  sz : t.place.size = hs.length
  mok : MaskG t.mask
  bd : ∀ x ∈ t.place.toList, x ≤ t.mask
  reach : ∀ (i : Nat) (g : Int) (j : Nat), hs[i]? = some g → t.place.toList[i]? = some j → ∃ k, way t.mask g k = j ∧ ∀ c, c < k → way t.mask g c ∈ t.place.toList
theorem TabG.first {t : SetTable} {hs : List Int} (T : TabG t hs) (hl : hs.length ≤ t.mask) (g : Int) : ∃ K, K < 10 * SetTable.turns t.mask ∧ way t.mask g K ∉ t.place.toList ∧ ∀ c, c < K → way t.mask g c ∈ t.place.toList := by
  obtain ⟨j, hj, free⟩ := st_missing t.place.toList (t.mask + 1) (by have := T.sz; rw [Array.length_toList]; omega)
  obtain ⟨k, hk, e⟩ := ways_meet T.mok g (Nat.le_of_lt_succ hj)
  obtain ⟨K, k1, k2, k3⟩ := st_least (p := fun c => way t.mask g c ∉ t.place.toList) k (by rw [e]; exact free)
  exact ⟨K, by omega, k2, fun c hc => Classical.not_not.mp (k3 c hc)⟩
theorem TabG.before {t : SetTable} {hs : List Int} (T : TabG t hs) {g : Int} {K i j : Nat} (hK : way t.mask g K ∉ t.place.toList) (hi : hs[i]? = some g) (hj : t.place.toList[i]? = some j) : ∃ k, k < K ∧ way t.mask g k = j := by
  obtain ⟨k, e, all⟩ := T.reach i g j hi hj
  by_cases c : k < K
  · exact ⟨k, c, e⟩
  · exfalso
    by_cases d : K = k
    · rw [d, e] at hK; exact hK (List.mem_of_getElem? hj)
    · exact hK (all K (by omega))
theorem TabG.put {t : SetTable} {hs : List Int} (T : TabG t hs) {g : Int} {K : Nat} (hK : way t.mask g K ∉ t.place.toList) (occ : ∀ c, c < K → way t.mask g c ∈ t.place.toList) :
    ∃ n, n = SetTable.below t.place (way t.mask g K) ∧ (t.put (way t.mask g K)).2 = n ∧ n ≤ hs.length ∧ TabG (t.put (way t.mask g K)).1 (hs.take n ++ g :: hs.drop n) ∧ (t.put (way t.mask g K)).1.mask = t.mask ∧ (t.put (way t.mask g K)).1.fill = hs.length + 1 := by
  have top := way_most t.mask g K
  generalize hj : way t.mask g K = j at hK top
  obtain ⟨c1, _, _⟩ := below_cut T.ris j
  have lenp : t.place.toList.length = hs.length := by have := T.sz; rw [Array.length_toList]; exact this
  have nl : SetTable.below t.place j ≤ hs.length := by rw [← T.sz]; exact c1
  have new : t.place[SetTable.below t.place j]? ≠ some j := fun e => hK (List.mem_of_getElem? (i := SetTable.below t.place j) (by rw [Array.getElem?_toList]; exact e))
  have lay := put_place t j
  have size : (t.put j).1.place.size = hs.length + 1 := by rw [← Array.length_toList, lay, len_ins _ (by omega), lenp]
  have stay : ∀ {x : Nat}, x ∈ t.place.toList → x ∈ (t.put j).1.place.toList := fun hx => by rw [lay]; exact mem_ins.mpr (.inr hx)
  refine ⟨SetTable.below t.place j, rfl, rfl, nl, ⟨ris_insert T.ris new, put_dm T.dm j, by rw [len_ins _ nl]; exact size, T.mok, fun x hx => ?_, fun i g' j' h1 h2 => ?_⟩, rfl, ?_⟩
  · rw [lay] at hx
    rcases mem_ins.mp hx with rfl | hx
    · exact top
    · exact T.bd x hx
  · rw [lay, tins_get _ (by omega)] at h2
    rw [tins_get hs nl] at h1
    show ∃ k, way t.mask g' k = j' ∧ ∀ c, c < k → way t.mask g' c ∈ (t.put j).1.place.toList
    by_cases a : i < SetTable.below t.place j
    · rw [if_pos a] at h1 h2
      obtain ⟨k, e, q⟩ := T.reach i g' j' h1 h2
      exact ⟨k, e, fun c hc => stay (q c hc)⟩
    · rw [if_neg a] at h1 h2
      by_cases b : i = SetTable.below t.place j
      · rw [if_pos b] at h1 h2
        obtain rfl : g = g' := Option.some.inj h1
        obtain rfl : j = j' := Option.some.inj h2
        exact ⟨K, hj, fun c hc => stay (occ c hc)⟩
      · rw [if_neg b] at h1 h2
        obtain ⟨k, e, q⟩ := T.reach (i - 1) g' j' h1 h2
        exact ⟨k, e, fun c hc => stay (q c hc)⟩
  · show (t.put j).1.place.size + (t.put j).1.dummies.size = hs.length + 1
    rw [size, put_dm T.dm j]; rfl
/-! ### a table laid anew -/
theorem free_met {m : Nat} (hm : MaskG m) (owner : Array (Option Nat)) (g : Int) {j : Nat} (hj : j ≤ m) (hf : oAt owner j = none) :
    ∃ K, SetTable.layClean.free m owner (SetTable.turns m) (SetTable.bits g % (m + 1)) (SetTable.bits g) = some (way m g K) ∧ oAt owner (way m g K) = none ∧ ∀ c, c < K → oAt owner (way m g c) ≠ none := by
  obtain ⟨n, hn, e⟩ := runs_meet hm g hj
  have there : way m g (off m (SetTable.bits g % (m + 1)) (SetTable.bits g) n) = j := by
    unfold way; rw [nth_off, itL_run]; exact e
  obtain ⟨K, k1, k2, k3⟩ := st_least (p := fun c => oAt owner (way m g c) = none) _ (by rw [there]; exact hf)
  refine ⟨K, free_spec m owner (SetTable.turns m) n _ _ K (by unfold SetTable.turns; omega) k1 (fun c hc => ?_) ?_, k2, k3⟩
  · have q := k3 c hc
    cases z : oAt owner (way m g c) with
    | none => exact absurd z q
    | some x => rfl
  · show (oAt owner (way m g K)).isNone = true
    rw [k2]; rfl
theorem own_step {m : Nat} (hm : MaskG m) {done : List Int} {owner : Array (Option Nat)} (W : Own m done owner) (hl : done.length ≤ m) (g : Int) :
    ∃ j, SetTable.layClean.free m owner (SetTable.turns m) (SetTable.bits g % (m + 1)) (SetTable.bits g) = some j ∧ Own m (done ++ [g]) (owner.setIfInBounds j (some done.length)) := by
  obtain ⟨ps, lps, inps⟩ := W.ps
  obtain ⟨z, z1, z2⟩ := st_missing ps (m + 1) (by omega)
  have zf : oAt owner z = none := by
    cases q : oAt owner z with
    | none => rfl
    | some x => exact absurd (inps z (Nat.le_of_lt_succ z1) (by rw [q]; intro u; cases u)) z2
  obtain ⟨K, e1, e2, e3⟩ := free_met hm owner g (Nat.le_of_lt_succ z1) zf
  have top := way_most m g K
  generalize hj : way m g K = j at e1 e2 top
  have insz : j < owner.size := by rw [W.sz]; omega
  have me := oAt_set_self (some done.length) insz
  have grow : ∀ {i : Nat}, oAt owner i ≠ none → oAt (owner.setIfInBounds j (some done.length)) i ≠ none := fun {i} hi => by
    by_cases c : i = j
    · rw [c, me]; intro u; cases u
    · rw [oAt_set_ne _ c]; exact hi
  refine ⟨j, e1, by rw [Array.size_setIfInBounds]; exact W.sz, fun i k hi e => ?_, fun k hk => ?_, j :: ps, by rw [List.length_cons, List.length_append, lps]; rfl, fun i hi e => ?_⟩
  · by_cases c : i = j
    · rw [c, me] at e
      obtain rfl : done.length = k := Option.some.inj e
      exact ⟨g, K, by rw [List.getElem?_append_right (Nat.le_refl _), Nat.sub_self]; rfl, by rw [c]; exact hj, fun c hc => grow (e3 c hc)⟩
    · rw [oAt_set_ne _ c] at e
      obtain ⟨g', K', a1, a2, a3⟩ := W.at_ i k hi e
      exact ⟨g', K', by rw [List.getElem?_append_left (List.getElem?_eq_some_iff.mp a1).1]; exact a1, a2, fun c hc => grow (a3 c hc)⟩
  · by_cases c : k < done.length
    · obtain ⟨i, hi, e⟩ := W.all k c
      exact ⟨i, hi, by rw [oAt_set_ne _ (fun u => by rw [u, e2] at e; cases e)]; exact e⟩
    · have ek : k = done.length := by rw [List.length_append] at hk; simp at hk; omega
      exact ⟨j, top, by rw [ek]; exact me⟩
  · by_cases c : i = j
    · rw [c]; exact List.mem_cons_self
    · rw [oAt_set_ne _ c] at e
      exact List.mem_cons_of_mem _ (inps i hi e)
theorem own_all {m : Nat} (hm : MaskG m) : ∀ (rest done : List Int) (owner : Array (Option Nat)), Own m done owner → done.length + rest.length ≤ m → ∃ o2, rest.foldl (stepF m) (some (owner, done.length)) = some (o2, done.length + rest.length) ∧ Own m (done ++ rest) o2
  | [], done, owner, W, _ => ⟨owner, rfl, by rw [List.append_nil]; exact W⟩
  | g :: rest, done, owner, W, hl => by
    simp only [List.length_cons] at hl
    obtain ⟨j, e, W2⟩ := own_step hm W (by omega) g
    have l2 : (done ++ [g]).length = done.length + 1 := by simp
    obtain ⟨o2, f, W3⟩ := own_all hm rest (done ++ [g]) _ W2 (by omega)
    refine ⟨o2, ?_, by rw [List.append_assoc] at W3; exact W3⟩
    rw [l2] at f
    rw [List.foldl_cons, stepF_some e, f, List.length_cons]
    congr 2; omega
theorem laid_all {m : Nat} (hm : MaskG m) {hs : Array Int} (hn : hs.size ≤ m) : ∃ owner, SetTable.layClean m hs = some owner ∧ Own m hs.toList owner := by
  obtain ⟨o2, f, W⟩ := own_all hm hs.toList [] _ (Own.init m) (by simp; exact hn)
  refine ⟨o2, ?_, W⟩
  rw [layClean_eq]
  have f' : hs.toList.foldl (stepF m) (some (Array.replicate (m + 1) none, 0)) = _ := f
  rw [f']; rfl
theorem laid_anew (t : SetTable) {hs : Array Int} {wanted M : Nat} (hw : SetTable.sizeAbove wanted - 1 = M) (hM : MaskG M) (hn : hs.size ≤ M) :
    ∃ t' order, t.relaid hs wanted = some (t', order) ∧ order.toList.Perm (List.range hs.size) ∧ TabG t' (order.toList.map fun i => hs.getD i 0) ∧ t'.mask = M := by
  obtain ⟨owner, e, W⟩ := laid_all hM hn
  have r0 : t.relaid hs wanted = some (tabOf t M owner, ((liveOf M owner).map (·.2)).toArray) := by rw [relaid_eq, hw, e]; rfl
  obtain ⟨r1, r2⟩ : Ris ((liveOf M owner).map (·.1)) ∧ ∀ x ∈ (liveOf M owner).map (·.1), x ∈ List.range (M + 1) :=
    ris_live (fun j => owner.getD j none) (List.range (M + 1)) (by unfold Ris; exact List.pairwise_lt_range)
  have live : ∀ {j k : Nat}, (j, k) ∈ liveOf M owner ↔ j ≤ M ∧ oAt owner j = some k := mem_live W.sz
  have numb : ∀ k, k < hs.size → k ∈ (liveOf M owner).map (·.2) := fun k hk => by
    obtain ⟨j, b1, b2⟩ := W.all k (by rw [Array.length_toList]; exact hk)
    exact List.mem_map.mpr ⟨(j, k), live.mpr ⟨b1, b2⟩, rfl⟩
  have len : ((liveOf M owner).map (·.2)).length = hs.size := by
    obtain ⟨ps, p1, p2⟩ := W.ps
    have once : ((liveOf M owner).map (·.1)).Nodup := List.Pairwise.imp (fun h => Nat.ne_of_lt h) r1
    have up := nat_nodup_len ((liveOf M owner).map (·.1)) ps once fun x hx => by
      obtain ⟨⟨y, k⟩, hq, rfl⟩ := List.mem_map.mp hx
      obtain ⟨b1, b2⟩ := live.mp hq
      exact p2 y b1 (by rw [b2]; intro u; cases u)
    have down := nat_nodup_len (List.range hs.size) ((liveOf M owner).map (·.2)) List.nodup_range fun k hk => numb k (List.mem_range.mp hk)
    rw [List.length_range] at down
    rw [List.length_map] at up down ⊢
    have z : hs.toList.length = hs.size := rfl
    omega
  refine ⟨_, _, r0, perm_range hs.size _ len numb, ⟨r1, rfl, ?_, hM, fun x hx => Nat.le_of_lt_succ (List.mem_range.mp (r2 x hx)), fun i g j h1 h2 => ?_⟩, rfl⟩
  · show ((liveOf M owner).map (·.1)).toArray.size = (((liveOf M owner).map (·.2)).map _).length
    simp
  · have h1 : (((liveOf M owner).map (·.2)).map fun i => hs.getD i 0)[i]? = some g := h1
    have h2 : ((liveOf M owner).map (·.1))[i]? = some j := h2
    rw [List.map_map, List.getElem?_map] at h1
    rw [List.getElem?_map] at h2
    cases q : (liveOf M owner)[i]? with
    | none => rw [q] at h2; cases h2
    | some y =>
      obtain ⟨y, k⟩ := y
      rw [q] at h1 h2
      obtain rfl : y = j := Option.some.inj h2
      have eg : hs.getD k 0 = g := Option.some.inj h1
      obtain ⟨b1, b2⟩ := live.mp (List.mem_of_getElem? q)
      obtain ⟨g0, K, a1, a2, a3⟩ := W.at_ y k b1 b2
      have e0 : hs.getD k 0 = g0 := by rw [Array.getD_eq_getD_getElem?, ← Array.getElem?_toList, a1]; rfl
      obtain rfl : g0 = g := e0.symm.trans eg
      refine ⟨K, a2, fun c hc => ?_⟩
      show way M g0 c ∈ (liveOf M owner).map (·.1)
      cases z : oAt owner (way M g0 c) with
      | none => exact absurd z (a3 c hc)
      | some k2 => exact List.mem_map.mpr ⟨(way M g0 c, k2), live.mpr ⟨way_most M g0 c, z⟩, rfl⟩
theorem above_5 : SetTable.sizeAbove (SetTable.grown 5) = 32 := by decide +kernel
theorem above_19 : SetTable.sizeAbove (SetTable.grown 19) = 128 := by decide +kernel
theorem above_77 : SetTable.sizeAbove (SetTable.grown 77) = 512 := by decide +kernel
end CP
/-! Sets whose elements are objects compared by value (tuples of texts, tuples of such tuples): set(xs), s.add(x), x in s, len(s). -/
namespace CP
open PySem PySem.Spec PyProof.Rows L2

/-- how objects serve as keys: key k stands at address a; its hash; == , hash and the two quiet questions -/
structure KF (P : Program) (w : World) (κ : Type) [DecidableEq κ] where
  At : Heap → κ → Addr → Prop
  hs : κ → Int
  eqb : ∀ {A : Around} {E : Value → Shared → Prop} {s : Shared} {x y : κ} {a b : Addr} {Q : Bool → Shared → Prop}, A.units + 8 < cLine → At s.heap x a → At s.heap y b → Q (decide (x = y)) s → wpAny (model P w) A (eqBool (.ref a) (.ref b)) Q E s
  seen : ∀ {A : Around} {E : Value → Shared → Prop} {s : Shared} {x : κ} {b : Addr} {Q : Bool → Shared → Prop} {ys : List Value}, At s.heap x b → (∀ y ∈ ys, ∃ z c, y = Value.ref c ∧ At s.heap z c) → Q false s → wpAny (model P w) A (searchCouldBeSeen (.ref b) ys) Q E s
  hby : ∀ {A : Around} {E : Value → Shared → Prop} {s : Shared} {x : κ} {b : Addr} {Q : Bool → Shared → Prop}, At s.heap x b → (∀ v, Q v s) → wpAny (model P w) A (hashByValue 8 (.ref b)) Q E s
  pyh : ∀ {A : Around} {E : Value → Shared → Prop} {s : Shared} {x : κ} {b : Addr} {Q : Int → Shared → Prop}, A.units + 8 < cLine → At s.heap x b → (∀ n, Q (hs x) { s with toks := s.toks + n }) → wpAny (model P w) A (pyHash (.ref b)) Q E s
  other : ∀ {h h' : Heap} {x : κ} {a b : Addr} {o : Obj} {es : Array (Int × Value)} {ep : Nat} {t : SetTable}, At h x b → h.get? a = some o → o.data = .set es ep t → Heap.SameBut a h h' → At h' x b
  kept : ∀ {h h' : Heap} {x : κ} {b : Addr}, At h x b → (∀ c o, h.get? c = some o → h'.get? c = some o) → At h' x b

variable {P : Program} {w : World} {κ : Type} [DecidableEq κ] {F : KF P w κ} {A : Around} {E : Value → Shared → Prop} {s : Shared}

def rowsK (F : KF P w κ) (L : List (Addr × κ)) : List (Int × Value) := L.map fun p => (F.hs p.2, Value.ref p.1)
def hsK (F : KF P w κ) (L : List (Addr × κ)) : List Int := L.map fun p => F.hs p.2

/-- at a stands a set whose elements are the objects L, no two keys alike -/
structure SK (F : KF P w κ) (h : Heap) (a : Addr) (L : List (Addr × κ)) (es : Array (Int × Value)) (ep : Nat) (t : SetTable) : Prop where
  obj : ∃ o, h.get? a = some o ∧ o.ExactSet ∧ o.data = .set es ep t
  row : es.toList = rowsK F L
  tab : TabG t (hsK F L)
  nod : (L.map (·.2)).Nodup
  ats : ∀ p ∈ L, F.At h p.2 p.1
  roo : L.length * 5 < t.mask * 3
  few : L.length < 250

section
variable {a : Addr} {L : List (Addr × κ)} {es : Array (Int × Value)} {ep : Nat} {t : SetTable}
theorem rowsK_len : (rowsK F L).length = L.length := List.length_map ..
theorem hsK_len : (hsK F L).length = L.length := List.length_map ..
theorem size_of_rows (e : es.toList = rowsK F L) : es.size = L.length := by
  rw [← Array.length_toList, e, rowsK_len]
theorem SK.size (R : SK F s.heap a L es ep t) : es.size = L.length := size_of_rows R.row
theorem entry_of_rows (e : es.toList = rowsK F L) {i : Nat} {p : Addr × κ} (hp : L[i]? = some p) : es[i]? = some (F.hs p.2, Value.ref p.1) := by
  rw [← Array.getElem?_toList, e, rowsK, List.getElem?_map, hp]; rfl
theorem fits_by (h1 : t.place.size = es.size) (h2 : t.dummies = #[]) (h3 : es.size ≤ t.mask) : t.fits es.size = true := by
  simp only [SetTable.fits, SetTable.fill, h2, Bool.and_eq_true, beq_iff_eq, decide_eq_true_eq]
  exact ⟨h1, by rw [h1]; exact h3⟩
theorem SK.fit (R : SK F s.heap a L es ep t) : t.fits es.size = true := by
  have q := R.tab.sz; rw [hsK_len] at q
  have r := R.size; have u := R.roo
  exact fits_by (by omega) R.tab.dm (by omega)
theorem SK.odd (R : SK F s.heap a L es ep t) : ¬ t.gaveWay = true := by
  simp only [SetTable.gaveWay, odd_mask R.tab.mok]; decide
theorem nth_dummy (m : Nat) : ∀ (n : Nat) (p : SetTable.Probe), p.dummy = none → (nth m p n).dummy = none
  | 0, _, e => e
  | n + 1, p, e => nth_dummy m n (adv m p) (by unfold adv; split <;> exact e)

/-- the walk's start for a hash -/
abbrev st0 (m : Nat) (h : Int) : SetTable.Probe := runAt m (SetTable.bits h % (m + 1)) (SetTable.bits h)

/-- looking for k, from the c-th place of its way on; K is the first empty place -/
theorem look_from (R : SK F s.heap a L es ep t) {x : Addr} {k : κ} (hx : F.At s.heap k x) (room : A.units + 8 < cLine) {K : Nat} (lim : K < 10 * SetTable.turns t.mask)
    (fre : way t.mask (F.hs k) K ∉ t.place.toList) (occ : ∀ c, c < K → way t.mask (F.hs k) c ∈ t.place.toList) {Q : SetFound → Shared → Prop}
    {ad : Bool} (yes : ∀ r : Option Nat, r.isSome = !ad → k ∈ L.map (·.2) → Q (.there r) s) (no : k ∉ L.map (·.2) → Q (.free (way t.mask (F.hs k) K) false) s) :
    ∀ (f c : Nat) (st : Option SetTable.Probe), st.getD (t.probeStart (F.hs k)) = nth t.mask (st0 t.mask (F.hs k)) c → c ≤ K → K - c < f →
      (∀ (i : Nat) p, L[i]? = some p → p.2 = k → ∃ d, c ≤ d ∧ d < K ∧ t.place.toList[i]? = some (way t.mask (F.hs k) d)) →
      wpAny (model P w) A (setSearchFrom a (.ref x) (F.hs k) ad f st) Q E s
  | 0, _, _, _, _, z, _ => absurd z (Nat.not_lt_zero _)
  | f + 1, c, st, est, hc, hf, rest => by
    obtain ⟨o, ob1, _, ob2⟩ := R.obj
    rw [setSearchFrom_succ]
    refine wpAny_bind (wpAny_setState_of ob1 ob2 R.fit ?_); dsimp only
    refine wp_if_neg R.odd ?_
    try refine wpAny_bind (wpAny_pure ?_)
    have shift : ∀ q, nth t.mask (nth t.mask (st0 t.mask (F.hs k)) c) q = nth t.mask (st0 t.mask (F.hs k)) (c + q) := fun q => (nth_add t.mask c _ q).symm
    have place : ∀ q, (nth t.mask (nth t.mask (st0 t.mask (F.hs k)) c) q).j = way t.mask (F.hs k) (c + q) := fun q => congrArg SetTable.Probe.j (shift q)
    have look := go_spec t R.tab.ris R.tab.dm (fun i => (es[i]?.map (·.1)).getD 0) (F.hs k) (10 * SetTable.turns t.mask) (K - c) _ (nth_dummy t.mask c (st0 t.mask (F.hs k)) rfl) (by omega)
      (fun q hq => by rw [place]; exact occ (c + q) (by omega)) (by rw [place, Nat.add_sub_cancel' hc]; exact fre)
    have hashOf : ∀ (i : Nat) p, L[i]? = some p → (es[i]?.map (·.1)).getD 0 = F.hs p.2 := fun i p hp => by rw [entry_of_rows R.row hp]; rfl
    rcases look with ⟨q, i, hq, hi, _, none_before, ans⟩ | ⟨none_before, ans⟩
    · have ans' : t.probe (fun i => (es[i]?.map (·.1)).getD 0) (F.hs k) (st.getD (t.probeStart (F.hs k))) = some (.candidate (way t.mask (F.hs k) (c + q)) i (nth t.mask (st0 t.mask (F.hs k)) (c + (q + 1)))) := by
        rw [est, ← place, ← shift]; exact ans
      rw [ans']; dsimp only
      rw [place] at hi
      have inL : i < L.length := by
        have u := (List.getElem?_eq_some_iff.mp hi).1
        have v := R.tab.sz; rw [hsK_len] at v; rw [Array.length_toList] at u; omega
      obtain ⟨p, hp⟩ : ∃ p, L[i]? = some p := ⟨_, List.getElem?_eq_getElem inL⟩
      have pL : p ∈ L := List.mem_of_getElem? hp
      have go_on : wpAny (model P w) A (searchRest a (.ref x) (F.hs k) ad f es t (way t.mask (F.hs k) (c + q)) i (nth t.mask (st0 t.mask (F.hs k)) (c + (q + 1)))) Q E s := by
        unfold searchRest
        rw [entry_of_rows R.row hp]; dsimp only
        refine wpAny_bind (wpAny_holding (F.eqb room (R.ats p pL) hx ?_))
        refine wpAny_bind (wpAny_setState_of ob1 ob2 R.fit ?_); dsimp only
        by_cases same : p.2 = k
        · cases ad with
          | true => refine wp_if_pos (by simp [same]) (wpAny_pure (yes none rfl (List.mem_map.mpr ⟨p, pL, same⟩)))
          | false =>
            refine wp_if_neg (by simp) ?_
            try refine wpAny_bind (wpAny_pure ?_)
            rw [sameMem]; dsimp only
            have live := slot_live R.tab.ris hi
            simp only [if_true, live, entry_of_rows R.row hp]
            refine wpAny_bind (wpAny_isSame_ref_self (wpAny_bind (wpAny_pure ?_)))
            simp only [if_true]
            refine wp_if_pos (by simp [same]) (wpAny_pure (yes (some i) rfl (List.mem_map.mpr ⟨p, pL, same⟩)))
        · refine wp_if_neg (by simp [same]) ?_
          try refine wpAny_bind (wpAny_pure ?_)
          rw [sameMem]; dsimp only
          have live := slot_live R.tab.ris hi
          simp only [if_true, live, entry_of_rows R.row hp]
          refine wpAny_bind (wpAny_isSame_ref_self (wpAny_bind (wpAny_pure ?_)))
          simp only [if_true]
          refine wp_if_neg (by simp [same]) (look_from R hx room lim fre occ yes no f (c + (q + 1)) _ rfl (by omega) (by omega) fun j r hj er => ?_)
          obtain ⟨d, d1, d2, d3⟩ := rest j r hj er
          refine ⟨d, ?_, d2, d3⟩
          rcases Nat.lt_trichotomy d (c + q) with lt | eq | gt
          · exact absurd ((hashOf j r hj).trans (congrArg F.hs er)) (none_before (d - c) j (by omega) (by rw [place, Nat.add_sub_cancel' d1]; exact d3))
          · rw [eq] at d3
            have l2 := slot_live R.tab.ris d3
            rw [live] at l2; injection l2 with l2
            rw [← l2, hp] at hj
            exact absurd ((congrArg Prod.snd (Option.some.inj hj)).trans er) same
          · omega
      by_cases led : t.led = true
      · refine wp_if_neg (by simp [led]) ?_
        try refine wpAny_bind (wpAny_pure ?_)
        exact go_on
      · refine wp_if_pos (by simp [led]) (wpAny_bind (F.seen hx (fun y hy => ?_) ?_))
        · obtain ⟨r, hr, rfl⟩ := List.mem_map.mp hy
          have hr1 : r ∈ es.toList := by
            have : r ∈ es ∧ r.1 = F.hs k := by simpa using hr
            simpa using this.1
          rw [R.row] at hr1
          obtain ⟨p2, hp2, rfl⟩ := List.mem_map.mp hr1
          exact ⟨p2.2, p2.1, rfl, R.ats p2 hp2⟩
        · refine wp_if_neg (by decide) ?_
          try refine wpAny_bind (wpAny_pure ?_)
          exact go_on
    · have ans' : t.probe (fun i => (es[i]?.map (·.1)).getD 0) (F.hs k) (st.getD (t.probeStart (F.hs k))) = some (.empty (way t.mask (F.hs k) K) none) := by
        have e2 := place (K - c); rw [Nat.add_sub_cancel' hc] at e2
        rw [est, ← e2]; exact ans
      rw [ans']; dsimp only
      refine wpAny_pure (no fun hm => ?_)
      obtain ⟨r, hr, er⟩ := List.mem_map.mp hm
      obtain ⟨j, hj⟩ := List.getElem?_of_mem hr
      obtain ⟨d, d1, d2, d3⟩ := rest j r hj er
      exact none_before (d - c) j (by omega) (by rw [place, Nat.add_sub_cancel' d1]; exact d3) ((hashOf j r hj).trans (congrArg F.hs er))

theorem look_for (R : SK F s.heap a L es ep t) {x : Addr} {k : κ} (hx : F.At s.heap k x) (room : A.units + 8 < cLine) {Q : SetFound → Shared → Prop} {ad : Bool} (yes : ∀ r : Option Nat, r.isSome = !ad → k ∈ L.map (·.2) → Q (.there r) s)
    (no : ∀ K, k ∉ L.map (·.2) → way t.mask (F.hs k) K ∉ t.place.toList → (∀ c, c < K → way t.mask (F.hs k) c ∈ t.place.toList) → Q (.free (way t.mask (F.hs k) K) false) s) :
    wpAny (model P w) A (setSearch a (.ref x) (F.hs k) ad) Q E s := by
  have u := R.roo
  obtain ⟨K, lim, fre, occ⟩ := R.tab.first (by rw [hsK_len]; omega) (F.hs k)
  have small : 10 * SetTable.turns t.mask ≤ 5260 := by
    unfold SetTable.turns; rcases R.tab.mok with e | e | e | e <;> omega
  unfold setSearch
  refine look_from R hx room lim fre occ yes (fun z => no K z fre occ) 100000 0 none rfl (Nat.zero_le _) (by omega) fun i p hp ek => ?_
  have hh : (hsK F L)[i]? = some (F.hs k) := by rw [hsK, List.getElem?_map, hp, ← ek]; rfl
  have hl : i < t.place.toList.length := by
    have v := R.tab.sz; rw [hsK_len] at v
    have u := (List.getElem?_eq_some_iff.mp hp).1; rw [Array.length_toList]; omega
  obtain ⟨c, c1, c2⟩ := R.tab.before fre hh (List.getElem?_eq_getElem hl)
  exact ⟨c, Nat.zero_le _, c1, by rw [List.getElem?_eq_getElem hl, c2]⟩
end
section
variable {a : Addr} {L : List (Addr × κ)} {es : Array (Int × Value)} {ep : Nat} {t : SetTable}
theorem pick_rows (L : List (Addr × κ)) (e : es.toList = rowsK F L) : ∀ l : List Nat, (∀ i ∈ l, i < L.length) →
    l.filterMap (fun i => es[i]?) = rowsK F (l.filterMap fun i => L[i]?) ∧ hsK F (l.filterMap fun i => L[i]?) = l.map fun i => (es.map (·.1)).getD i 0
  | [], _ => ⟨rfl, rfl⟩
  | i :: l, hl => by
    have hi := hl i List.mem_cons_self
    obtain ⟨p, hp⟩ : ∃ p, L[i]? = some p := ⟨_, List.getElem?_eq_getElem hi⟩
    obtain ⟨e1, e2⟩ := pick_rows L e l fun j hj => hl j (List.mem_cons_of_mem _ hj)
    have q := entry_of_rows e hp
    have q2 : (es.map (·.1)).getD i 0 = F.hs p.2 := by
      rw [Array.getD_eq_getD_getElem?, Array.getElem?_map, q]; rfl
    refine ⟨?_, ?_⟩
    · rw [List.filterMap_cons_some q, List.filterMap_cons_some hp, e1]; rfl
    · rw [List.filterMap_cons_some hp, List.map_cons, q2, ← e2]; rfl
theorem pick_all {α : Type} (L : List α) : ∀ n, n ≤ L.length → (List.range n).filterMap (fun i => L[i]?) = L.take n
  | 0, _ => rfl
  | n + 1, hn => by
    rw [List.range_succ, List.filterMap_append, pick_all L n (Nat.le_of_lt hn), List.take_succ, List.filterMap_cons, List.getElem?_eq_getElem hn]; rfl
theorem pick_perm {α : Type} (L : List α) {l : List Nat} (h : l.Perm (List.range L.length)) : (l.filterMap fun i => L[i]?).Perm L := by
  have q := h.filterMap fun i => L[i]?
  rw [pick_all L _ (Nat.le_refl _), List.take_length] at q
  exact q

/-- is k in it -/
theorem find_in (R : SK F s.heap a L es ep t) {x : Addr} {k : κ} (hx : F.At s.heap k x) (room : A.units + 8 < cLine) {Q : Option Nat → Shared → Prop} (hQ : ∀ r : Option Nat, r.isSome = decide (k ∈ L.map (·.2)) → Q r s) :
    wpAny (model P w) A (setFind a (.ref x) (F.hs k)) Q E s := by
  obtain ⟨o, ob1, obx, ob2⟩ := R.obj
  unfold setFind
  rw [show (100000 : Nat) = 99999 + 1 from rfl]
  unfold setFindIn
  refine wpAny_bind (wpAny_setState_of ob1 ob2 R.fit ?_); dsimp only
  refine wp_if_neg (by simp [byScan, Value.scannable]) ?_
  try refine wpAny_bind (wpAny_pure ?_)
  refine wpAny_bind (look_for R hx room (fun r hr hm => ?_) fun K hm fre occ => ?_)
  · exact wpAny_pure (hQ r (by rw [hr, decide_eq_true hm]; rfl))
  · exact wpAny_pure (hQ none (by rw [decide_eq_false hm]; rfl))

/-- the table laid anew, with more places -/
theorem lay_anew {o : Obj} (ob1 : s.heap.get? a = some o) (obx : o.ExactSet) (ob2 : o.data = .set es ep t) (row : es.toList = rowsK F L) (pz : t.place.size = es.size) (dm : t.dummies = #[]) (le : es.size ≤ t.mask)
    (nod : (L.map (·.2)).Nodup) (ats : ∀ p ∈ L, F.At s.heap p.2 p.1) (few : L.length < 250) {n M : Nat} (hM : SetTable.sizeAbove n - 1 = M) (ok : MaskG M) (most : SetTable.sizeAbove n ≤ 512) (roo : L.length * 5 < M * 3) {Q : Unit → Shared → Prop}
    (hQ : ∀ h' L' es' ep' t', Heap.SameBut a s.heap h' → SK F h' a L' es' ep' t' → L'.Perm L → Q () { s with heap := h' }) : wpAny (model P w) A (setRelay a n) Q E s := by
  have sz := size_of_rows row
  obtain ⟨t', ord, er, pm, T, em⟩ := laid_anew t (hs := es.map (·.1)) (wanted := n) hM ok (by rw [Array.size_map, sz]; omega)
  rw [Array.size_map, sz] at pm
  obtain ⟨r1, r2⟩ := pick_rows L row ord.toList fun i hi => List.mem_range.mp (pm.mem_iff.mp hi)
  have pL := pick_perm L pm
  rw [← r2] at T
  generalize (ord.toList.filterMap fun i => L[i]?) = L2 at r1 r2 pL T
  have r3 : (ord.filterMap (es[·]?)).toList = rowsK F L2 := by rw [← r1]; simp
  have z2 : (ord.filterMap (es[·]?)).size = es.size := by rw [size_of_rows r3, pL.length_eq, sz]
  rw [setRelay_eq]
  refine wpAny_bind (wpAny_setState_of ob1 ob2 (fits_by pz dm le) ?_); dsimp only
  refine wp_if_neg (by rw [sizeLine_eq]; omega) ?_
  try refine wpAny_bind (wpAny_pure ?_)
  rw [er]; dsimp only
  refine wpAny_bind (wp_if_neg (by rw [z2]; simp) ?_)
  try refine wpAny_bind (wpAny_pure ?_)
  refine wpAny_pure ?_; dsimp only
  refine wpAny_storeSet_of ob1 ob2 ?_ (by rw [z2, sz, sizeLine_eq]; omega)
  have sb : Heap.SameBut a s.heap (s.heap.update a (Obj.putSet (ord.filterMap (es[·]?)) t')) := Heap.SameBut.update ..
  exact hQ _ L2 _ _ _ sb ⟨⟨_, store_at ob1 ob2, ⟨obx.1, obx.2.1, obx.2.2⟩, rfl⟩, r3, T, (pL.map (·.2)).nodup_iff.mpr nod, fun p hp => F.other (ats p (pL.mem_iff.mp hp)) ob1 ob2 sb, by rw [pL.length_eq, em]; exact roo, by rw [pL.length_eq]; exact few⟩ pL

def marked (v : Bool) (t : SetTable) : SetTable := if v = true then t else { t with plain := false }
theorem plainly (v : Bool) {hs : List Int} (T : TabG t hs) : TabG (marked v t) hs := by
  cases v
  · exact ⟨T.ris, T.dm, T.sz, T.mok, T.bd, T.reach⟩
  · exact T
theorem marked_mask (v : Bool) (t : SetTable) : (marked v t).mask = t.mask := by cases v <;> rfl
theorem marked_fill (v : Bool) (t : SetTable) : (marked v t).fill = t.fill := by cases v <;> rfl
theorem by_value {β : Type} {x : Addr} {k : κ} (hx : F.At s.heap k x) {f : Bool → Sem β} {Q : β → Shared → Prop} (h : ∀ v, wpAny (model P w) A (f v) Q E s) : wpAny (model P w) A (if t.plain = true then (hashByValue 8 (.ref x) >>= f) else (pure true >>= f)) Q E s := by
  by_cases c : t.plain = true
  · exact wp_if_pos c (wpAny_bind (F.hby hx h))
  · exact wp_if_neg c (wpAny_bind (wpAny_pure (h true)))
/-- one element more -/
theorem put_in (R : SK F s.heap a L es ep t) {x : Addr} {k : κ} (hx : F.At s.heap k x) (room : A.units + 8 < cLine) (fewer : L.length + 1 < 250) {Q : Bool → Shared → Prop}
    (hQ : ∀ b h' L' es' ep' t', Heap.SameBut a s.heap h' → SK F h' a L' es' ep' t' → (k ∈ L.map (·.2) → L' = L) → (k ∉ L.map (·.2) → L'.Perm ((x, k) :: L)) → Q b { s with heap := h' }) :
    wpAny (model P w) A (setAddHashed a (.ref x) (F.hs k)) Q E s := by
  obtain ⟨o, ob1, obx, ob2⟩ := R.obj
  have sz := R.size
  have roo := R.roo
  unfold setAddHashed
  refine wpAny_holding ?_
  rw [show (100000 : Nat) = 99999 + 1 from rfl, setAddHashedIn_succ]
  refine wpAny_bind (wpAny_setState_of ob1 ob2 R.fit ?_); dsimp only
  refine wp_if_neg (by simp [byScan, Value.scannable]) ?_
  try refine wpAny_bind (wpAny_pure ?_)
  refine wpAny_bind (look_for R hx room (fun r hr hm => ?_) fun K hm fre occ => ?_)
  · exact wpAny_pure (hQ false s.heap L es ep t (Heap.SameBut.refl a s.heap) R (fun _ => rfl) fun z => absurd hm z)
  · dsimp only
    refine wpAny_bind (wpAny_setState_of ob1 ob2 R.fit ?_); dsimp only
    obtain ⟨n0, q0, q1, q2, q3, q4, q9⟩ := R.tab.put fre occ
    generalize t.put (way t.mask (F.hs k) K) = pt at q1 q3 q4 q9 ⊢
    obtain ⟨t1, n⟩ := pt
    dsimp only at q1 q3 q4 q9 ⊢
    subst q1
    refine by_value hx fun v => ?_
    replace q3 := plainly v q3
    replace q4 : (marked v t1).mask = t.mask := (marked_mask v t1).trans q4
    replace q9 : (marked v t1).fill = _ := (marked_fill v t1).trans q9
    show wpAny _ _ (storeSet a _ (marked v t1) >>= fun _ => if (!false && (marked v t1).tooFull) = true then (setRelay a _ >>= fun _ => pure true) else pure true) _ _ _
    generalize marked v t1 = t1 at q3 q4 q9 ⊢
    clear q0
    have pm := put_perm L n (x, k)
    have row1 : (SetTable.insertAt es n (F.hs k, Value.ref x)).toList = rowsK F (L.take n ++ (x, k) :: L.drop n) := by
      rw [SetTable.toList_insertAt, R.row]
      simp only [rowsK, List.map_append, List.map_cons, List.map_take, List.map_drop]
    have hh1 : hsK F (L.take n ++ (x, k) :: L.drop n) = (hsK F L).take n ++ F.hs k :: (hsK F L).drop n := by
      simp only [hsK, List.map_append, List.map_cons, List.map_take, List.map_drop]
    rw [← hh1] at q3
    have nod1 : ((L.take n ++ (x, k) :: L.drop n).map (·.2)).Nodup := (pm.map (·.2)).nodup_iff.mpr (by rw [List.map_cons]; exact List.nodup_cons.mpr ⟨hm, R.nod⟩)
    generalize SetTable.insertAt es n (F.hs k, Value.ref x) = es1 at row1 ⊢
    generalize L.take n ++ (x, k) :: L.drop n = L1 at pm q3 nod1 row1
    have len1 : L1.length = L.length + 1 := pm.length_eq
    have sz1 : es1.size = L.length + 1 := (size_of_rows row1).trans len1
    refine wpAny_bind (wpAny_storeSet_of ob1 ob2 ?_ (by rw [sz1, sizeLine_eq]; omega))
    have sb : Heap.SameBut a s.heap (s.heap.update a (Obj.putSet es1 t1)) := Heap.SameBut.update ..
    have ob3 := store_at (es' := es1) (t' := t1) ob1 ob2
    generalize s.heap.update a (Obj.putSet es1 t1) = h1 at sb ob3 ⊢
    have ats1 : ∀ p ∈ L1, F.At h1 p.2 p.1 := fun p hp => by
      rcases List.mem_cons.mp (pm.mem_iff.mp hp) with rfl | hp
      · exact F.other hx ob1 ob2 sb
      · exact F.other (R.ats p hp) ob1 ob2 sb
    have full : t1.tooFull = decide ((L.length + 1) * 5 ≥ t1.mask * 3) := by
      unfold SetTable.tooFull; rw [q9, hsK_len]
    by_cases hf : (L.length + 1) * 5 ≥ t1.mask * 3
    · rw [full, decide_eq_true hf]
      first
        | (refine wpAny_bind ?_; refine wp_if_pos (by simp) ?_)
        | (refine wp_if_pos (by simp) ?_; refine wpAny_bind ?_)
      rw [sz]
      have pz1 : t1.place.size = es1.size := by have v := q3.sz; rw [hsK_len, len1] at v; rw [v, sz1]
      have two : (t.mask = 7 ∧ L.length = 4) ∨ (t.mask = 31 ∧ L.length = 18) ∨ (t.mask = 127 ∧ L.length = 76) := by
        rw [q4] at hf
        rcases R.tab.mok with e | e | e | e <;> rw [e] at hf roo
        · exact .inl ⟨e, by omega⟩
        · exact .inr (.inl ⟨e, by omega⟩)
        · exact .inr (.inr ⟨e, by omega⟩)
        · omega
      have more : ∀ M, SetTable.sizeAbove (SetTable.grown (L.length + 1)) - 1 = M → MaskG M → SetTable.sizeAbove (SetTable.grown (L.length + 1)) ≤ 512 → (L.length + 1) * 5 < M * 3 →
          wpAny (model P w) A (setRelay a (SetTable.grown (L.length + 1))) (fun _ s' => wpAny (model P w) A (pure true) Q E s') E { s with heap := h1 } := fun M m1 m2 m3 m4 =>
        lay_anew (s := { s with heap := h1 }) ob3 ⟨obx.1, obx.2.1, obx.2.2⟩ rfl row1 pz1 q3.dm (by rw [sz1, q4]; rcases two with ⟨e, e2⟩ | ⟨e, e2⟩ | ⟨e, e2⟩ <;> omega) nod1 ats1 (by rw [len1]; exact fewer) m1 m2 m3 (by rw [len1]; exact m4)
          fun h2 L2 es2 ep2 t2 sb2 R2 pm2 => wpAny_pure (hQ true h2 L2 es2 ep2 t2 (sb.trans sb2) R2 (fun z => absurd z hm) fun _ => pm2.trans pm)
      rcases two with ⟨_, e2⟩ | ⟨_, e2⟩ | ⟨_, e2⟩
      · exact more 31 (by rw [e2, above_5]) (.inr (.inl rfl)) (by rw [e2, above_5]; decide) (by omega)
      · exact more 127 (by rw [e2, above_19]) (.inr (.inr (.inl rfl))) (by rw [e2, above_19]; decide) (by omega)
      · exact more 511 (by rw [e2, above_77]) (.inr (.inr (.inr rfl))) (by rw [e2, above_77]; decide) (by omega)
    · rw [full, decide_eq_false hf]
      first
        | refine wp_if_neg (by simp) ?_
        | (refine wpAny_bind ?_; refine wp_if_neg (by simp) ?_; refine wpAny_pure ?_)
      exact wpAny_pure (hQ true h1 L1 es1 (ep + 1) t1 sb ⟨⟨_, ob3, ⟨obx.1, obx.2.1, obx.2.2⟩, rfl⟩, row1, q3, nod1, ats1, by rw [len1]; omega, by rw [len1]; exact fewer⟩ (fun z => absurd z hm) fun _ => pm)
end
section
/-- what the set has from the first i of ks -/
structure Has (ks : List (Addr × κ)) (i : Nat) (L : List (Addr × κ)) : Prop where
  sub : ∀ p ∈ L, p ∈ ks.take i
  all : ∀ p ∈ ks.take i, p.2 ∈ L.map (·.2)
  len : L.length ≤ i
  full : (ks.map (·.2)).Nodup → L.length = i
  once : L.length = i → ((ks.take i).map (·.2)).Nodup
theorem take_one {α : Type} {l : List α} {i : Nat} {x : α} (h : l[i]? = some x) : l.take (i + 1) = l.take i ++ [x] := by rw [List.take_succ, h]; rfl
theorem Has.none (ks : List (Addr × κ)) : Has ks 0 [] := ⟨(fun _ z => nomatch z), (fun _ z => by simp at z), Nat.le_refl _, fun _ => rfl, fun _ => List.nodup_nil⟩
theorem Has.next {ks L L' : List (Addr × κ)} {i : Nat} {x : Addr × κ} (g : Has ks i L) (hx : ks[i]? = some x) (c1 : x.2 ∈ L.map (·.2) → L' = L) (c2 : x.2 ∉ L.map (·.2) → L'.Perm (x :: L)) : Has ks (i + 1) L' := by
  by_cases c : x.2 ∈ L.map (·.2)
  · rw [c1 c]
    refine ⟨fun p hp => ?_, fun p hp => ?_, Nat.le_succ_of_le g.len, fun nd => ?_, fun z => absurd z (Nat.ne_of_lt (Nat.lt_succ_of_le g.len))⟩
    · rw [take_one hx]; exact List.mem_append_left _ (g.sub p hp)
    · rw [take_one hx] at hp
      rcases List.mem_append.mp hp with z | z
      · exact g.all p z
      · rw [List.mem_singleton.mp z]; exact c
    · exfalso
      obtain ⟨p, hp, e⟩ := List.mem_map.mp c
      obtain ⟨j, hj⟩ := List.getElem?_of_mem (g.sub p hp)
      have hji : j < i := Nat.lt_of_lt_of_le (List.getElem?_eq_some_iff.mp hj).1 (List.length_take_le _ _)
      rw [List.getElem?_take_of_lt hji] at hj
      have a1 : (ks.map (·.2))[j]? = some x.2 := by rw [List.getElem?_map, hj, ← e]; rfl
      have a2 : (ks.map (·.2))[i]? = some x.2 := by rw [List.getElem?_map, hx]; rfl
      obtain ⟨b1, e1⟩ := List.getElem?_eq_some_iff.mp a1
      obtain ⟨b2, e2⟩ := List.getElem?_eq_some_iff.mp a2
      exact (List.pairwise_iff_getElem.mp nd) j i b1 b2 hji (e1.trans e2.symm)
  · have pm := c2 c
    refine ⟨fun p hp => ?_, fun p hp => ?_, by rw [pm.length_eq]; exact Nat.succ_le_succ g.len, fun nd => by rw [pm.length_eq, List.length_cons, g.full nd], fun z => ?_⟩
    · rw [take_one hx]
      rcases List.mem_cons.mp (pm.mem_iff.mp hp) with rfl | z
      · exact List.mem_append_right _ (List.mem_singleton.mpr rfl)
      · exact List.mem_append_left _ (g.sub p z)
    · rw [(pm.map (·.2)).mem_iff, List.map_cons]
      rw [take_one hx] at hp
      rcases List.mem_append.mp hp with z | z
      · exact List.mem_cons_of_mem _ (g.all p z)
      · rw [List.mem_singleton.mp z]; exact List.mem_cons_self
    · rw [pm.length_eq, List.length_cons] at z
      have nd := g.once (by omega)
      rw [take_one hx, List.map_append]
      refine List.nodup_append.mpr ⟨nd, by simp, fun y hy y' hy' e => c ?_⟩
      simp at hy'
      obtain ⟨p, hp, ep⟩ := List.mem_map.mp hy
      rw [← hy', ← e, ← ep]; exact g.all p hp
theorem SK.kept {h h' : Heap} {a : Addr} {L : List (Addr × κ)} {es : Array (Int × Value)} {ep : Nat} {t : SetTable} (R : SK F h a L es ep t) (ha : ∀ o, h.get? a = some o → h'.get? a = some o) (ht : ∀ p ∈ L, F.At h' p.2 p.1) : SK F h' a L es ep t := by
  obtain ⟨o, ob, r⟩ := R.obj
  exact ⟨⟨o, ha o ob, r⟩, R.row, R.tab, R.nod, ht, R.roo, R.few⟩
theorem SK.new {h : Heap} {a : Addr} {b : Bool} (ho : h.get? a = some { cls := .type "set", dict := none, data := .set #[] 0 (.fresh 0 0 b) }) : SK F h a [] #[] 0 (.fresh 0 0 b) :=
  ⟨⟨_, ho, ⟨rfl, rfl, rfl⟩, rfl⟩, rfl, ⟨List.Pairwise.nil, rfl, rfl, .inl rfl, fun _ z => (by cases z), fun _ _ _ z => (by simp [hsK] at z)⟩, List.nodup_nil, fun _ z => (by cases z), (by show 0 * 5 < 7 * 3; decide), (by show 0 < 250; decide)⟩

end
end CP
namespace CP
open PySem PySem.Spec PyProof.Rows L2
variable {P : Program} {w : World} {A : Around} {E : Value → Shared → Prop} {s : Shared}
section
variable {a : Addr}
/-- what a set filled item by item holds: J i h, «behind i items», S its place, h0 the heap ahead -/
structure Fills (P : Program) (w : World) (u : Nat) (E : Value → Shared → Prop) (S : Addr) (items : Array Value) (h0 : Heap) (J : Nat → Heap → Prop) : Prop where
  zero : ∀ (h : Heap) (b : Bool), h.get? S = some { cls := .type "set", dict := none, data := .set #[] 0 (.fresh 0 0 b) } → (∀ c o, h0.get? c = some o → h.get? c = some o) → J 0 h
  keep : ∀ (i : Nat) (h h' : Heap), J i h → (∀ o, h.get? S = some o → h'.get? S = some o) → (∀ c o, h0.get? c = some o → h'.get? c = some o) → J i h'
  step : ∀ (A' : Around) (i : Nat) (v : Value) (s' : Shared), A'.units ≤ u → items[i]? = some v → J i s'.heap → (∀ c o, h0.get? c = some o → s'.heap.get? c = some o) → ∀ Q : Bool → Shared → Prop,
    (∀ (b : Bool) (h' : Heap) (n : Nat), Heap.SameBut S s'.heap h' → J (i + 1) h' → Q b { s' with heap := h', toks := s'.toks + n }) → wpAny (model P w) A' (setAdd S v) Q E s'

theorem fills_loop {I : Addr} {fp wr : List Addr} {G : Array GenState → Array GenState → Prop} {items : Array Value} {St : Nat → Shared → Prop} {R : Result → Shared → Prop} {u : Nat} {h0 : Heap} {J : Nat → Heap → Prop} {S : Addr}
    (W : WalksS P w A.in1 I fp wr G items.size (fun i v => items[i]? = some v) St) (off : S ∉ fp) (freeS : h0.get? S = none) (freeW : ∀ b ∈ wr, h0.get? b = none) (hu : A.in1.units ≤ u)
    (T : ∀ E, Fills P w u E S items h0 J) :
    ∀ (k i : Nat) (s : Shared), items.size - i = k → i ≤ items.size → St i s → (∀ b o, h0.get? b = some o → s.heap.get? b = some o) → J i s.heap →
      (∀ s', Moved (S :: wr) G s s' → J items.size s'.heap → (∀ b o, h0.get? b = some o → s'.heap.get? b = some o) → R (.ok (.ret .none)) s') →
      codeAny (model P w) A (.builtin "set.update.loop" ⟨[.ref S, .ref I], []⟩) R s := by
  have offW : S ∉ wr := fun z => off (W.sub _ z)
  have wider : ∀ b ∈ wr, b ∈ S :: wr := fun b => List.mem_cons_of_mem _
  have still : ∀ {s s' : Shared}, Moved wr G s s' → (∀ b o, h0.get? b = some o → s.heap.get? b = some o) → ∀ b o, h0.get? b = some o → s'.heap.get? b = some o := fun m q b o e =>
    m.heap b o (fun z => by rw [freeW b z] at e; cases e) (q b o e)
  intro k
  induction k with
  | zero =>
    intro i s hk' hi hst hkp hJ hR
    obtain rfl : i = items.size := by omega
    refine codeAny_builtin PyProof.Rows.F.entry_set_update_loop ?_
    rw [Around.under_plainId PyProof.Rows.F.plain_set_update_loop _]
    show wpAny _ A.in1 (pyNext (.ref I) >>= _) _ _ s
    refine wpAny_bind (W.done s _ _ hst fun s' m => ?_)
    show wpAny _ A.in1 (ret Value.none) _ _ s'
    exact wpAny_pure (hR s' (m.mono wider) ((T (fun _ _ => False)).keep _ _ _ hJ (fun o e => m.heap S o offW e) (still m hkp)) (still m hkp))
  | succ k ih =>
    intro i s hk' hi hst hkp hJ hR
    have lt : i < items.size := by omega
    refine codeAny_builtin PyProof.Rows.F.entry_set_update_loop ?_
    rw [Around.under_plainId PyProof.Rows.F.plain_set_update_loop _]
    show wpAny _ A.in1 (pyNext (.ref I) >>= _) _ _ s
    refine wpAny_bind (W.item i s _ _ lt hst fun v s' pv hst' m => ?_)
    have q := still m hkp
    show wpAny _ A.in1 (holding [v] (setAdd S v) >>= _) _ _ s'
    refine wpAny_bind (wpAny_holding ((T _).step A.in1 i v s' hu pv ((T (fun _ _ => False)).keep _ _ _ hJ (fun o e => m.heap S o offW e) q) q _ fun b h' tn sb J' => ?_))
    have q2 : ∀ b o, h0.get? b = some o → h'.get? b = some o := fun b o e => (sb.2 b (fun z => by rw [z, freeS] at e; cases e)).trans (q b o e)
    refine wpAny_pure ⟨plainId_quiet PyProof.Rows.F.plain_set_update_loop _, ih (i + 1) _ (by omega) lt (W.frame _ s' _ _ hst' (Nat.le_add_right _ _) fun b hb o e => ?_) q2 J' fun s'' m'' J'' q'' => ?_⟩
    · rw [sb.2 b (fun z : b = S => off (z ▸ hb))]; exact e
    · refine hR s'' (Moved.trans W.gtrans ((m.mono wider).then_heap (Nat.le_add_right _ _) fun b o hb e => ?_) m'') J'' q''
      rw [sb.2 b (fun z : b = S => hb (by rw [z]; exact List.mem_cons_self))]; exact e

abbrev newSet (w : World) : Obj := { cls := .type "set", dict := none, data := .set #[] 0 (.fresh 0 0 (!w.params.followText "set-order")) }
theorem free_above {h : Heap} {b : Addr} (hb : h.objs.size ≤ b) : h.get? b = none := by
  cases q : h.get? b with
  | none => rfl
  | some o => exact absurd (Nat.lt_of_lt_of_le (Heap.lt_size q) hb) (Nat.lt_irrefl _)
/-- set(xs), xs a list or a tuple -/
theorem set_of_seq {l : Addr} {items : Array Value} {Q : Value → Shared → Prop} {J : Nat → Heap → Prop} {ty it : String} {od : Option Addr} {nl : Nat} {os : Array (Option Value)} {St : Addr → Nat → Heap → Prop}
    (hol : s.heap.get? l = some { cls := .type ty, dict := od, data := .seq items nl, slots := os }) (n1 : isSubtype (.type ty) (.type "set") = pure false) (n2 : isSubtype (.type ty) (.type "frozenset") = pure false) (n3 : (Value.type ty == Value.type "dict") = false)
    (beg : ∀ {A : Around} {E : Value → Shared → Prop} {s1 : Shared} {Q : Value → Shared → Prop}, s1.heap.get? l = some { cls := .type ty, dict := od, data := .seq items nl, slots := os } → Q (.ref s1.heap.objs.size) { s1 with heap := s1.heap.push { cls := .type it, data := .fields #[.ref l, .int 0 0] } } → wpAny (model P w) A (pyIter (.ref l)) Q E s1)
    (W : ∀ I, l ≠ I → Walks P w A.in1.in1.in1 I [I, l] [I] items.size (fun i v => items[i]? = some v) (St I))
    (St0 : ∀ h : Heap, h.get? l = some { cls := .type ty, dict := od, data := .seq items nl, slots := os } → St h.objs.size 0 (h.push { cls := .type it, data := .fields #[.ref l, .int 0 0] })) (T : ∀ E, Fills P w (A.units + 3) E s.heap.objs.size items s.heap J)
    (h : ∀ (h' : Heap) (tk : Nat), J items.size h' → (∀ b o, s.heap.get? b = some o → h'.get? b = some o) → Q (.ref s.heap.objs.size) { s with heap := h', toks := tk }) :
    wpAny (model P w) A (call (.type "set") [.ref l]) Q E s := by
  obtain ⟨c, tl, m1⟩ := PySem.F.called_set.mro
  have m2 := PySem.F.called_set.made
  have m3 := PySem.F.called_set.sub
  refine wpAny_call (codeAny_of_tree ?_); show wpAny _ _ (callAny (.type "set") _) _ _ _
  refine wpAny_pure ⟨Code.quiet_builtin _ (by decide +kernel), codeAny_builtin PySem.F.entry_type_call ?_⟩
  rw [Around.under_plain (weight_type_call_type "set" [.ref l] []) rfl]
  have m4 := PySem.F.called_set.notType
  have m5 := PySem.F.called_set.canCreate
  have m6 := PySem.F.typeCall_set_1 (.ref l)
  repeat (any_goals (first | assumption | wp_step))
  refine codeAny_mono (code_set_led1 (.ref l) (E := E) (Q₁ := fun v s₁ => v = .ref s.heap.objs.size ∧ s₁ = { s with heap := s.heap.push (newSet w) }) ⟨rfl, rfl⟩) fun r s₁ hr => ?_
  cases r with
  | error e => exact hr
  | ok fl =>
    cases fl with
    | ret obj =>
      obtain ⟨rfl, rfl⟩ := hr
      have atS : (s.heap.push (newSet w)).get? s.heap.objs.size = some (newSet w) := Heap.get?_push_size _ rfl
      have tyS : Shared.TypeIs { s with heap := s.heap.push (newSet w) } (.ref s.heap.objs.size) "set" := ⟨_, atS, rfl⟩
      have m7 := PySem.F.called_set.init.lookup
      have m8 := PySem.F.called_set.init.bind (.ref s.heap.objs.size)
      repeat (any_goals (first | assumption | wp_step))
      refine codeAny_mono (codeAny_call_builtin (R := wants (fun r s₂ => r = .none ∧ ∃ h' tk, s₂ = { s with heap := h', toks := tk } ∧ J items.size h' ∧ (∀ b o, s.heap.get? b = some o → h'.get? b = some o)) E)
        PySem.F.called_set.init.plain PySem.F.entry_set_init (check_set_init_1 tyS ?_)) fun r₂ s₂ hr₂ => ?_
      · have hol' : (s.heap.push (newSet w)).get? l = some { cls := .type ty, dict := od, data := .seq items nl, slots := os } := Heap.get?_push_of_some _ hol
        unfold Builtin.«set.__init__» noKeywords Builtin.Frozenset.updateFrom
        generalize hPI : pyIter = PI
        wp_walk
        subst hPI
        refine beg hol' (wpAny_bind (wpAny_runValue ?_))
        have ll : l < s.heap.objs.size := Heap.lt_size hol
        have nI : l ≠ (s.heap.push (newSet w)).objs.size := by rw [Heap.size_push]; exact Nat.ne_of_lt (Nat.lt_succ_of_lt ll)
        have off : s.heap.objs.size ∉ [(s.heap.push (newSet w)).objs.size, l] := by
          rw [Heap.size_push]; simp only [List.mem_cons, List.not_mem_nil, or_false, not_or]
          exact ⟨Nat.ne_of_lt (Nat.lt_succ_self _), Nat.ne_of_gt ll⟩
        have up : ∀ b o, s.heap.get? b = some o → ((s.heap.push (newSet w)).push { cls := .type it, data := .fields #[.ref l, .int 0 0] }).get? b = some o := fun b o e => Heap.get?_push_of_some _ (Heap.get?_push_of_some _ e)
        refine fills_loop ((W _ nI).toS) off (free_above (Nat.le_refl _)) (fun b hb => free_above (by rw [List.mem_singleton.mp hb, Heap.size_push]; exact Nat.le_succ _)) (by simp) T (items.size - 0) 0 _ (by omega) (Nat.zero_le _)
          (St0 _ hol') up ((T (fun _ _ => False)).zero _ _ (Heap.get?_push_of_some _ atS) up) ?_
        intro s' m J' q'
        obtain ⟨h', g2, d', tk', os'⟩ := s'
        have eg : g2 = s.gens := m.gens
        have ed : d' = s.drawn := m.drawn
        have eo : os' = s.os := m.os
        subst eg; subst ed; subst eo
        show wpAny _ _ _ _ _ _
        refine wpAny_pure ?_; show wpAny _ _ (ret Value.none) _ _ _
        exact wpAny_pure ⟨rfl, h', tk', rfl, J', q'⟩
      · cases r₂ with
        | error e => exact hr₂
        | ok fl₂ =>
          cases fl₂ with
          | ret r =>
            obtain ⟨rfl, h', tk, rfl, J', q'⟩ := hr₂
            repeat (any_goals (first | assumption | wp_step))
            exact h _ _ J' q'
          | _ => exact hr₂.elim
    | _ => exact hr.elim
theorem set_of_list {l : Addr} {items : Array Value} {Q : Value → Shared → Prop} {J : Nat → Heap → Prop} (hh : A.handled = none) (hl : s.heap.IsList l items) (T : ∀ E, Fills P w (A.units + 3) E s.heap.objs.size items s.heap J)
    (h : ∀ (h' : Heap) (tk : Nat), J items.size h' → (∀ b o, s.heap.get? b = some o → h'.get? b = some o) → Q (.ref s.heap.objs.size) { s with heap := h', toks := tk }) :
    wpAny (model P w) A (call (.type "set") [.ref l]) Q E s := by
  obtain ⟨⟨oc, od, odata, os⟩, hol, hcl, nl, hdl⟩ := hl
  simp only at hcl hdl
  subst hcl; subst hdl
  exact set_of_seq hol PySem.F.sub_list_set PySem.F.sub_list_frozenset (by decide) (fun e q => wpAny_pyIter_list ⟨_, e, rfl, nl, rfl⟩ q) (fun I nI => Walks.list (by simp [hh]) I l nI items)
    (fun h e => ⟨⟨_, Heap.get?_push_size _ rfl, rfl, rfl⟩, ⟨_, Heap.get?_push_of_some _ e, rfl, nl, rfl⟩⟩) T h
theorem set_of_tuple {l : Addr} {items : Array Value} {Q : Value → Shared → Prop} {J : Nat → Heap → Prop} (hh : A.handled = none) (hl : s.heap.IsTuple l items) (T : ∀ E, Fills P w (A.units + 3) E s.heap.objs.size items s.heap J)
    (h : ∀ (h' : Heap) (tk : Nat), J items.size h' → (∀ b o, s.heap.get? b = some o → h'.get? b = some o) → Q (.ref s.heap.objs.size) { s with heap := h', toks := tk }) :
    wpAny (model P w) A (call (.type "set") [.ref l]) Q E s := by
  obtain ⟨⟨oc, od, odata, os⟩, hol, hcl, nl, hdl⟩ := hl
  simp only at hcl hdl
  subst hcl; subst hdl
  exact set_of_seq hol PySem.F.sub_tuple_set PySem.F.sub_tuple_frozenset (by decide) (fun e q => wpAny_pyIter_tuple ⟨_, e, rfl, nl, rfl⟩ q) (fun I nI => Walks.tuple (by simp [hh]) I l nI items)
    (fun h e => ⟨⟨_, Heap.get?_push_size _ rfl, rfl, rfl⟩, ⟨_, Heap.get?_push_of_some _ e, rfl, nl, rfl⟩⟩) T h
end
end CP
namespace CP
open PySem PySem.Spec PyProof.Rows L2
section
variable {P : Program} {w : World} {A : Around} {E : Value → Shared → Prop} {s : Shared}
/-- the tuple at b holds the texts k -/
abbrev TxtAt (P : Program) (w : World) (h : Heap) (k : List Str) (b : Addr) : Prop := IsTupleKey (strKind P w) h k b
theorem items_txt {k : List Str} {vs : List Value} (h : ItemsAre (strKind P w) k vs) : ∀ v ∈ vs, ∃ x u, v = Value.str x u := by
  induction h with
  | nil => intro v z; cases z
  | @cons k0 v0 ks vs h1 _ ih =>
    intro v z
    rcases List.mem_cons.mp z with rfl | z
    · obtain ⟨u, e⟩ := Value.isStrOf_shape h1
      exact ⟨k0, u, e⟩
    · exact ih v z
theorem cls_txt (n : Nat) (x : Str) (u : Tok) : ofAClassStatement n (.str x u) = pure false := by cases n <;> rfl
theorem hsh_txt (n : Nat) (x : Str) (u : Tok) : hashByValue n (.str x u) = pure false := by cases n <;> rfl
theorem cls_tup {k : List Str} {b : Addr} {Q : Bool → Shared → Prop} (hk : TxtAt P w s.heap k b) (h : Q false s) : wpAny (model P w) A (ofAClassStatement 8 (.ref b)) Q E s := by
  have ty := hk.typeIs
  obtain ⟨o, items, n, ho, _, hd, hi⟩ := hk
  unfold ofAClassStatement
  refine wpAny_bind (wpAny_typeOf ty ?_); dsimp only
  have e : (("tuple" : String) == "tuple") = true := by decide
  simp only [e, if_true, Bool.not_true, Bool.false_eq_true, if_false]
  try refine wpAny_bind (wpAny_pure ?_)
  try simp only [Bool.not_true, Bool.false_eq_true, if_false]
  show wpAny _ _ (seqItems? (.ref b) >>= _) _ _ s
  refine wpAny_bind (wpAny_seqItems ho hd ?_); dsimp only
  refine wpAny_bind ?_; show wpAny _ _ (forIn items _ _) _ _ s
  rw [← Array.forIn_toList]
  refine wpAny_forIn_list _ (fun rest r s' => r.1 = none ∧ s' = s ∧ ∀ v ∈ rest, ∃ x u, v = Value.str x u) _ ?_ ?_ _ _ ⟨rfl, rfl, items_txt hi⟩
  · rintro v rest r s' ⟨hr, rfl, each⟩
    obtain ⟨x, u, rfl⟩ := each v List.mem_cons_self
    rw [cls_txt]
    refine wpAny_bind (wpAny_pure ?_); simp only [Bool.false_eq_true, if_false]
    exact wpAny_pure ⟨rfl, rfl, fun y hy => each y (List.mem_cons_of_mem _ hy)⟩
  · rintro ⟨r1, r2⟩ s' ⟨hr, rfl, _⟩
    simp only at hr; subst hr
    exact wpAny_pure h
theorem hsh_tup {k : List Str} {b : Addr} {Q : Bool → Shared → Prop} (hk : TxtAt P w s.heap k b) (h : ∀ v, Q v s) : wpAny (model P w) A (hashByValue 8 (.ref b)) Q E s := by
  have ty := hk.typeIs
  obtain ⟨o, items, n, ho, _, hd, hi⟩ := hk
  unfold hashByValue
  refine wpAny_bind (wpAny_specialOf ty PySem.F.slot_tuple_hash.lookup ?_)
  show wpAny _ _ (seqItems? (.ref b) >>= _) _ _ s
  refine wpAny_bind (wpAny_seqItems ho hd (wpAny_bind ?_)); show wpAny _ _ (forIn items _ _) _ _ s
  rw [← Array.forIn_toList]
  refine wpAny_forIn_list _ (fun rest r s' => (r.1 = none ∨ r.1 = some false) ∧ s' = s ∧ ∀ v ∈ rest, ∃ x u, v = Value.str x u) _ ?_ ?_ _ _ ⟨.inl rfl, rfl, items_txt hi⟩
  · rintro v rest r s' ⟨hr, rfl, each⟩
    obtain ⟨x, u, rfl⟩ := each v List.mem_cons_self
    rw [hsh_txt]
    refine wpAny_bind (wpAny_pure ?_); simp only [Bool.not_false, if_true]
    exact wpAny_pure (wpAny_pure (h _))
  · rintro ⟨r1, r2⟩ s' ⟨hr, rfl, _⟩
    simp only at hr
    rcases hr with rfl | rfl
    · exact wpAny_pure (h _)
    · exact wpAny_pure (h _)
theorem seen_tup2 {k : List Str} {b : Addr} {Q : Bool → Shared → Prop} {ys : List Value} (hk : TxtAt P w s.heap k b) (hy : ∀ y ∈ ys, ∃ z c, y = Value.ref c ∧ TxtAt P w s.heap z c) (h : Q false s) : wpAny (model P w) A (searchCouldBeSeen (.ref b) ys) Q E s := by
  unfold searchCouldBeSeen
  refine wpAny_bind ?_
  refine wpAny_forIn_list _ (fun rest r s' => r.1 = none ∧ s' = s ∧ ∀ y ∈ rest, ∃ z c, y = Value.ref c ∧ TxtAt P w s.heap z c) _ ?_ ?_ _ _ ⟨rfl, rfl, hy⟩
  · rintro v rest r s' ⟨hr, rfl, each⟩
    obtain ⟨z, c, rfl, hc⟩ := each v List.mem_cons_self
    have each' : ∀ y ∈ rest, ∃ z c, y = Value.ref c ∧ TxtAt P w s'.heap z c := fun y z => each y (List.mem_cons_of_mem _ z)
    dsimp only
    by_cases hv : (b == c || (carriedByValue (.ref b) && carriedByValue (.ref c))) = true
    · exact wp_if_pos hv (wpAny_pure ⟨rfl, rfl, each'⟩)
    · refine wp_if_neg hv (wpAny_bind (wpAny_eqIsQuiet_tuple hk ?_)); simp only [Bool.not_true, Bool.false_eq_true, if_false]
      refine wpAny_bind (wpAny_eqIsQuiet_tuple hc ?_); simp only [Bool.not_true, Bool.false_eq_true, if_false]
      refine wpAny_bind (cls_tup hk ?_); simp only [Bool.false_eq_true, if_false]
      refine wpAny_bind (cls_tup hc ?_); simp only [Bool.false_eq_true, if_false]
      exact wpAny_pure ⟨rfl, rfl, each'⟩
  · rintro ⟨r1, r2⟩ s' ⟨hr, rfl, _⟩
    simp only at hr; subst hr
    exact wpAny_pure h
end
/-- tuples of texts as keys -/
def txtK (P : Program) (w : World) : KF P w (List Str) where
  At := fun h k b => TxtAt P w h k b
  hs := tupleKeyHash (strKind P w)
  eqb := fun hu hx hy h => wpAny_eqBool_tuple (by omega) hx hy h
  seen := fun hx hy h => seen_tup2 hx hy h
  hby := fun hx h => hsh_tup hx h
  pyh := fun hu hx h => wpAny_pyHash_tuple (by omega) hx (h _)
  other := fun hb ho hd hs => by
    obtain ⟨o2, items, n, ho2, hc, hd2, hi⟩ := hb
    refine ⟨o2, items, n, (hs.2 _ fun z => ?_).trans ho2, hc, hd2, hi⟩
    rw [z, ho] at ho2; cases ho2; rw [hd] at hd2; cases hd2
  kept := fun hb hk => by
    obtain ⟨o2, items, n, ho2, r⟩ := hb
    exact ⟨o2, items, n, hk _ _ ho2, r⟩

section
variable {P : Program} {w : World} {κ : Type} [DecidableEq κ] (F : KF P w κ)
/-- a set filled with the objects ks, item by item -/
theorem fills_keys {S : Addr} {items : Array Value} {h0 : Heap} {ks : List (Addr × κ)} {u : Nat} {E : Value → Shared → Prop} (hu : u + 8 < cLine) (hit : items.toList = ks.map fun p => Value.ref p.1) (few : ks.length < 250) (hk : ∀ p ∈ ks, F.At h0 p.2 p.1) :
    Fills P w u E S items h0 (fun i h => (∃ L es ep t, SK F h S L es ep t ∧ Has ks i L)) := by
  have sub : ∀ {i : Nat} {L : List (Addr × κ)} {p : Addr × κ}, Has ks i L → p ∈ L → p ∈ ks := fun g hp => List.mem_of_mem_take (g.sub _ hp)
  refine ⟨fun h b e _ => ⟨[], #[], 0, _, SK.new e, Has.none ks⟩, fun i h h' ⟨L, es, ep, t, R, g⟩ q1 q2 => ⟨L, es, ep, t, R.kept q1 fun p hp => F.kept (hk p (sub g hp)) q2, g⟩, ?_⟩
  intro A' i v s' hA hv ⟨L, es, ep, t, R, g⟩ q2 Q hQ
  obtain ⟨p, hp, rfl⟩ : ∃ p, ks[i]? = some p ∧ v = .ref p.1 := by
    have e : items.toList[i]? = some v := by rw [Array.getElem?_toList]; exact hv
    rw [hit, List.getElem?_map] at e
    cases hq : ks[i]? with
    | none => rw [hq] at e; cases e
    | some p => rw [hq] at e; exact ⟨p, rfl, (Option.some.inj e).symm⟩
  have hx : F.At s'.heap p.2 p.1 := F.kept (hk p (List.mem_of_getElem? hp)) q2
  unfold setAdd
  refine wpAny_holding (wpAny_bind (F.pyh (by omega) hx fun tn => ?_))
  have li : i < ks.length := (List.getElem?_eq_some_iff.mp hp).1
  refine put_in (s := { s' with toks := s'.toks + tn }) R hx (by omega) (by have := g.len; omega) fun b h' L' es' ep' t' sb R' c1 c2 => ?_
  exact hQ b h' tn sb ⟨L', es', ep', t', R', g.next hp c1 c2⟩
end
section
variable {P : Program} {w : World}
theorem txts_get {us : List Value} {xs : List Str} (r : Vals (xs.map V.str) us) (i : Nat) (v : Value) (e : us[i]? = some v) : ∃ x u, xs[i]? = some x ∧ v = .str x u := by
  have li : i < xs.length := by have := (List.getElem?_eq_some_iff.mp e).1; rw [← r.length, List.length_map] at this; exact this
  have hx : xs[i]? = some xs[i] := List.getElem?_eq_getElem li
  obtain ⟨u, e2, rv⟩ := r.get (i := i) (x := V.str xs[i]) (by rw [List.getElem?_map, hx]; rfl)
  rw [e] at e2; cases e2
  obtain ⟨t, rfl⟩ := rv
  exact ⟨_, t, hx, rfl⟩
/-- a set filled with texts -/
theorem fills_txts {S : Addr} {items : Array Value} {h0 : Heap} {xs : List Str} {u : Nat} {E : Value → Shared → Prop} (hi : Vals (xs.map V.str) items.toList) (few : xs.length + 1 < scanBound) :
    Fills P w u E S items h0 (fun i h => ∃ n, h.SetOf (strKind P w) S (fun k => decide (k ∈ xs.take i)) n ∧ n ≤ i ∧ (xs.Nodup → n = i) ∧ (n = i → (xs.take i).Nodup)) := by
  refine ⟨fun h b e _ => ⟨0, ?_, Nat.le_refl _, fun _ => rfl, fun _ => List.nodup_nil⟩, fun i h h' ⟨n, R, c⟩ q1 _ => ⟨n, ?_, c⟩, ?_⟩
  · exact SetOf_congr ((setObjOf_fresh (knd := strKind P w) b).setOf e (by unfold scanBound; omega)) (fun k => by simp) rfl
  · obtain ⟨o, es, ep, tb, ho, rest⟩ := R
    exact ⟨o, es, ep, tb, q1 o ho, rest⟩
  · intro A' i v s' _ hv ⟨n, R, c1, c2, c3⟩ _ Q hQ
    obtain ⟨x, u, hx, rfl⟩ := txts_get hi i v (by rw [Array.getElem?_toList]; exact hv)
    have li : i < xs.length := (List.getElem?_eq_some_iff.mp hx).1
    unfold setAdd
    refine wpAny_holding (wpAny_bind ((strKind P w).pyHash (k := x) (strKind_is _ _ _ _) ?_))
    refine wpAny_setAddHashed_of (knd := strKind P w) (s := { s' with toks := s'.toks + 1 }) (strKind_is _ _ _ _) rfl R (by omega) fun h' sb R' => ?_
    refine hQ _ h' 1 sb ⟨_, SetOf_congr R' (fun k => ?_) rfl, ?_, fun nd => ?_, fun z => ?_⟩
    · rw [take_one hx]; simp [Bool.decide_or]
    · split <;> omega
    · have : x ∉ xs.take i := fun z => by
        obtain ⟨j, hj⟩ := List.getElem?_of_mem z
        have hji : j < i := Nat.lt_of_lt_of_le (List.getElem?_eq_some_iff.mp hj).1 (List.length_take_le _ _)
        rw [List.getElem?_take_of_lt hji] at hj
        obtain ⟨b1, e1⟩ := List.getElem?_eq_some_iff.mp hj
        obtain ⟨b2, e2⟩ := List.getElem?_eq_some_iff.mp hx
        exact (List.pairwise_iff_getElem.mp nd) j i b1 b2 hji (e1.trans e2.symm)
      rw [decide_eq_false this]; simp [c2 nd]
    · by_cases c : x ∈ xs.take i
      · rw [decide_eq_true c, if_pos rfl] at z; omega
      · rw [decide_eq_false c, if_neg (by decide)] at z
        rw [take_one hx]
        refine List.nodup_append.mpr ⟨c3 (by omega), by simp, fun y hy y' hy' e => c ?_⟩
        simp at hy'
        rw [← hy', ← e]; exact hy
end
/-! ### len(set(xs)) -/
section
variable {X : Cx} {e : Expr} {te : TE} {p p2 q pos : Pos}
/-- xs a row of texts -/
def tLenSetX (K : PySem.W.Frag) (te : TE) : TE := fun σ H Q => te σ H fun x H1 => ∃ (l : Addr) (xs : List Str), x = V.ref l ∧ (SqL K H1 l (xs.map V.str) ∨ SqT K H1 l (xs.map V.str)) ∧ xs.length < 1000 ∧
  ∀ n : Nat, n ≤ xs.length → (n = xs.length ↔ xs.Nodup) → Q (.int (n : Int)) H1
theorem pe_lenSetX (hc : X.calm = true) (hg : Gl X "len") (hm : X.mg "len" = none) (hg2 : Gl X "set") (hm2 : X.mg "set" = none) (he : PE X e te)
    (na : starEach [e] X.env = (false, eval e X.env) :: starEach [] X.env := by rfl) : PE X (.Call (.Name "len" p) [.Call (.Name "set" p2) [e] [] q] [] pos) (tLenSetX X.K te) := by
  refine ⟨fun pins s σ H Q I h => Call_ (ld_blt I hg hm PySem.boot_len ?_)⟩
  refine PyProof.Rows.callWith_builtin1 (PyProof.Rows.args_cons ?_ rfl) rfl rfl
  refine Call_ (ld_blt I hg2 hm2 PyProof.Rows.boot_set ?_)
  refine PyProof.Rows.callWith_type1 (PyProof.Rows.args_cons (thn (he.run pins s σ H _ I h) fun v s1 ⟨x, H1, I1, r1, l, xs, ex, hq, few, k⟩ => PyProof.Rows.args_nil ?_) na) na rfl
  subst ex; cases r1
  rcases hq with hq | hq
  · obtain ⟨its, r, pl, _⟩ := I1.list hq
    refine set_of_list (I1.ok.hd hc) pl.isList (fun E => fills_txts (xs := xs) (by simpa using r) (by unfold scanBound; omega)) fun h' tk ⟨n, ⟨o, es, ep, t, ho, hex, hd, _, _, _, hf, hn⟩, c1, c2, c3⟩ keep => ?_
    have sz : its.toArray.size = xs.length := by rw [List.size_toArray, ← r.length, List.length_map]
    rw [sz] at c1 c2 c3; rw [List.take_length] at c3
    exact PyProof.Rows.args_nil (call_len_set ho hex hd hf (by rw [hn]; omega) ⟨.int n, H1, (I1.kept (t' := tk) keep).tok _, ⟨_, by rw [hn]⟩, k n c1 ⟨c3, c2⟩⟩)
  · obtain ⟨its, r, pl, _⟩ := I1.tuple hq
    refine set_of_tuple (I1.ok.hd hc) pl (fun E => fills_txts (xs := xs) (by simpa using r) (by unfold scanBound; omega)) fun h' tk ⟨n, ⟨o, es, ep, t, ho, hex, hd, _, _, _, hf, hn⟩, c1, c2, c3⟩ keep => ?_
    have sz : its.toArray.size = xs.length := by rw [List.size_toArray, ← r.length, List.length_map]
    rw [sz] at c1 c2 c3; rw [List.take_length] at c3
    exact PyProof.Rows.args_nil (call_len_set ho hex hd hf (by rw [hn]; omega) ⟨.int n, H1, (I1.kept (t' := tk) keep).tok _, ⟨_, by rw [hn]⟩, k n c1 ⟨c3, c2⟩⟩)
/-- xs a row of tuples of texts -/
def tLenSetP (K : PySem.W.Frag) (te : TE) : TE := fun σ H Q => te σ H fun x H1 => ∃ (l : Addr) (ks : List (Addr × List Str)), x = V.ref l ∧ (SqL K H1 l (ks.map fun p => V.ref p.1) ∨ SqT K H1 l (ks.map fun p => V.ref p.1)) ∧ (∀ p ∈ ks, SqT K H1 p.1 (p.2.map V.str)) ∧ ks.length < 250 ∧
  ∀ n : Nat, n ≤ ks.length → (n = ks.length ↔ (ks.map (·.2)).Nodup) → Q (.int (n : Int)) H1
theorem txt_items {P : Program} {w : World} : ∀ {k : List Str} {us : List Value}, Vals (k.map V.str) us → ItemsAre (strKind P w) k us
  | [], us, r => by cases r; exact .nil
  | x :: k, us, r => by
    cases r with
    | @cons _ u _ us h1 h2 =>
      obtain ⟨t, rfl⟩ := h1
      exact .cons (strKind_is _ _ _ _) (txt_items h2)
theorem txt_at {pins : List (Addr × Obj)} {σ : L2.St} {H : Hp} {s : Shared} {b : Addr} {k : List Str} (I : L2.Inv X pins σ H s) (h : SqT X.K H b (k.map V.str)) : TxtAt X.prog X.w s.heap k b := by
  obtain ⟨its, r, ⟨o, ho, hc, n, hd⟩, _⟩ := I.tuple h
  exact ⟨o, its.toArray, n, ho, hc, hd, by simpa using txt_items r⟩
theorem refs_only : ∀ {κ : Type} {ks : List (Addr × κ)} {us : List Value}, Vals (ks.map fun p => V.ref p.1) us → us = ks.map fun p => Value.ref p.1
  | _, [], us, r => by cases r; rfl
  | _, p :: ks, us, r => by
    cases r with
    | @cons _ u _ us h1 h2 =>
      obtain rfl : u = Value.ref p.1 := h1
      rw [refs_only h2]; rfl
theorem pe_lenSetP (hc : X.calm = true) (hg : Gl X "len") (hm : X.mg "len" = none) (hg2 : Gl X "set") (hm2 : X.mg "set" = none) (hu : X.A.units + 64 < cLine) (he : PE X e te)
    (na : starEach [e] X.env = (false, eval e X.env) :: starEach [] X.env := by rfl) : PE X (.Call (.Name "len" p) [.Call (.Name "set" p2) [e] [] q] [] pos) (tLenSetP X.K te) := by
  refine ⟨fun pins s σ H Q I h => Call_ (ld_blt I hg hm PySem.boot_len ?_)⟩
  refine PyProof.Rows.callWith_builtin1 (PyProof.Rows.args_cons ?_ rfl) rfl rfl
  refine Call_ (ld_blt I hg2 hm2 PyProof.Rows.boot_set ?_)
  refine PyProof.Rows.callWith_type1 (PyProof.Rows.args_cons (thn (he.run pins s σ H _ I h) fun v s1 ⟨x, H1, I1, r1, l, ks, ex, hq, hks, few, k⟩ => PyProof.Rows.args_nil ?_) na) na rfl
  subst ex; cases r1
  have ats : ∀ p ∈ ks, (txtK X.prog X.w).At s1.heap p.2 p.1 := fun p hp => txt_at I1 (hks p hp)
  rcases hq with hq | hq
  · obtain ⟨its, r, pl, _⟩ := I1.list hq
    have sz : its.toArray.size = ks.length := by rw [List.size_toArray, ← r.length, List.length_map]
    refine set_of_list (I1.ok.hd hc) pl.isList (fun E => fills_keys (txtK X.prog X.w) (ks := ks) (by omega) (by simpa using refs_only r) few ats) fun h' tk ⟨L, es, ep, t, R, g⟩ keep => ?_
    rw [sz] at g
    obtain ⟨o, ho, hex, hd⟩ := R.obj
    have cz := size_of_rows R.row
    have c3 := g.once; rw [List.take_length] at c3
    exact PyProof.Rows.args_nil (call_len_set ho hex hd (R.fit (s := { s1 with heap := h' })) (by have := R.few; omega) ⟨.int L.length, H1, (I1.kept (t' := tk) keep).tok _, ⟨_, by rw [cz]⟩, k L.length g.len ⟨c3, g.full⟩⟩)
  · obtain ⟨its, r, pl, _⟩ := I1.tuple hq
    have sz : its.toArray.size = ks.length := by rw [List.size_toArray, ← r.length, List.length_map]
    refine set_of_tuple (I1.ok.hd hc) pl (fun E => fills_keys (txtK X.prog X.w) (ks := ks) (by omega) (by simpa using refs_only r) few ats) fun h' tk ⟨L, es, ep, t, R, g⟩ keep => ?_
    rw [sz] at g
    obtain ⟨o, ho, hex, hd⟩ := R.obj
    have cz := size_of_rows R.row
    have c3 := g.once; rw [List.take_length] at c3
    exact PyProof.Rows.args_nil (call_len_set ho hex hd (R.fit (s := { s1 with heap := h' })) (by have := R.few; omega) ⟨.int L.length, H1, (I1.kept (t' := tk) keep).tok _, ⟨_, by rw [cz]⟩, k L.length g.len ⟨c3, g.full⟩⟩)
end
end CP
/-! Pairs of pairs of texts as keys: sets of them -/
namespace CP
open PySem PySem.Spec PyProof.Rows L2
abbrev PP := (Str × Str) × (Str × Str)
def nk (p : PP) : NestedKey := .tup [.tup [.text p.1.1, .text p.1.2], .tup [.text p.2.1, .text p.2.2]]
theorem nk_inj {p q : PP} (h : nk p = nk q) : p = q := by
  obtain ⟨⟨a, b⟩, ⟨c, d⟩⟩ := p
  obtain ⟨⟨a', b'⟩, ⟨c', d'⟩⟩ := q
  simp only [nk, NestedKey.tup.injEq, List.cons.injEq, NestedKey.text.injEq, and_true] at h
  obtain ⟨⟨rfl, rfl⟩, rfl, rfl⟩ := h
  rfl
theorem nk_depth (p : PP) : (nk p).depth = 2 := by simp [nk, NestedKey.depth, NestedKey.depthAll]
section
variable {P : Program} {w : World}
def ClsAt (P : Program) (w : World) (n : Nat) (s : Shared) (v : Value) : Prop := ∀ (A : Around) (E : Value → Shared → Prop) (Q : Bool → Shared → Prop), Q false s → wpAny (model P w) A (ofAClassStatement n v) Q E s
def HbyAt (P : Program) (w : World) (n : Nat) (s : Shared) (v : Value) : Prop := ∀ (A : Around) (E : Value → Shared → Prop) (Q : Bool → Shared → Prop), (∀ b, Q b s) → wpAny (model P w) A (hashByValue n v) Q E s
theorem ClsAt.txt {n : Nat} {s : Shared} (x : Str) (u : Tok) : ClsAt P w n s (.str x u) := fun A E Q h => by rw [cls_txt]; exact wpAny_pure h
theorem HbyAt.txt {n : Nat} {s : Shared} (x : Str) (u : Tok) : HbyAt P w n s (.str x u) := fun A E Q h => by rw [hsh_txt]; exact wpAny_pure (h false)
theorem ClsAt.tup {n : Nat} {s : Shared} {b : Addr} {o : Obj} {vs : Array Value} {m : Nat} (ho : s.heap.get? b = some o) (hc : o.cls = .type "tuple") (hd : o.data = .seq vs m) (each : ∀ v ∈ vs.toList, ClsAt P w n s v) : ClsAt P w (n + 1) s (.ref b) := fun A E Q h => by
  have ty : s.TypeIs (.ref b) "tuple" := ⟨o, ho, hc⟩
  unfold ofAClassStatement
  refine wpAny_bind (wpAny_typeOf ty ?_); dsimp only
  have e : (("tuple" : String) == "tuple") = true := by decide
  simp only [e, if_true, Bool.not_true, Bool.false_eq_true, if_false]
  try refine wpAny_bind (wpAny_pure ?_)
  try simp only [Bool.not_true, Bool.false_eq_true, if_false]
  refine wpAny_bind (m := seqItems? (.ref b)) (wpAny_seqItems ho hd ?_); dsimp only
  refine wpAny_bind ?_; show wpAny _ _ (forIn vs _ _) _ _ s
  rw [← Array.forIn_toList]
  refine wpAny_forIn_list _ (fun rest r s' => r.1 = none ∧ s' = s ∧ ∀ v ∈ rest, ClsAt P w n s v) _ ?_ ?_ _ _ ⟨rfl, rfl, each⟩
  · rintro v rest r s' ⟨hr, rfl, all⟩
    refine wpAny_bind (all v List.mem_cons_self _ _ _ ?_); simp only [Bool.false_eq_true, if_false]
    exact wpAny_pure ⟨rfl, rfl, fun y hy => all y (List.mem_cons_of_mem _ hy)⟩
  · rintro ⟨r1, r2⟩ s' ⟨hr, rfl, _⟩
    simp only at hr; subst hr
    exact wpAny_pure h
theorem HbyAt.tup {n : Nat} {s : Shared} {b : Addr} {o : Obj} {vs : Array Value} {m : Nat} (ho : s.heap.get? b = some o) (hc : o.cls = .type "tuple") (hd : o.data = .seq vs m) (each : ∀ v ∈ vs.toList, HbyAt P w n s v) : HbyAt P w (n + 1) s (.ref b) := fun A E Q h => by
  have ty : s.TypeIs (.ref b) "tuple" := ⟨o, ho, hc⟩
  unfold hashByValue
  refine wpAny_bind (wpAny_specialOf ty PySem.F.slot_tuple_hash.lookup ?_)
  refine wpAny_bind (m := seqItems? (.ref b)) (wpAny_seqItems ho hd (wpAny_bind ?_)); show wpAny _ _ (forIn vs _ _) _ _ s
  rw [← Array.forIn_toList]
  refine wpAny_forIn_list _ (fun rest r s' => (r.1 = none ∨ r.1 = some false) ∧ s' = s ∧ ∀ v ∈ rest, HbyAt P w n s v) _ ?_ ?_ _ _ ⟨.inl rfl, rfl, each⟩
  · rintro v rest r s' ⟨hr, rfl, all⟩
    refine wpAny_bind (all v List.mem_cons_self _ _ _ fun c => ?_)
    cases c
    · simp only [Bool.not_false, if_true]
      exact wpAny_pure (wpAny_pure (h _))
    · simp only [Bool.not_true, Bool.false_eq_true, if_false]
      exact wpAny_pure ⟨.inl rfl, rfl, fun y hy => all y (List.mem_cons_of_mem _ hy)⟩
  · rintro ⟨r1, r2⟩ s' ⟨hr, rfl, _⟩
    simp only at hr
    rcases hr with rfl | rfl
    · exact wpAny_pure (h _)
    · exact wpAny_pure (h _)
abbrev PpAt (h : Heap) (k : PP) (b : Addr) : Prop := NestedIs h (nk k) (.ref b)
/-- what stands behind such a key -/
theorem pp_open {h : Heap} {k : PP} {b : Addr} (x : PpAt h k b) {T : Nat → Value → Prop} (text : ∀ n y u, T n (.str y u)) (tup : ∀ n a o vs m, h.get? a = some o → o.cls = .type "tuple" → o.data = .seq vs m → (∀ v ∈ vs.toList, T n v) → T (n + 1) (.ref a)) (n : Nat) : T (n + 1 + 1) (.ref b) := by
  have inner : ∀ {u v : Str} {z : Value}, NestedIs h (.tup [.text u, .text v]) z → T (n + 1) z := fun {u v z} q => by
    cases q with
    | tup h1 h2 h3 h4 =>
      refine tup n _ _ _ _ h1 h2 h3 fun y hy => ?_
      generalize hl : Array.toList _ = l at h4 hy
      cases h4 with
      | cons a1 a2 =>
        cases a2 with
        | cons b1 b2 =>
          cases b2
          cases a1; cases b1
          simp only [List.mem_cons, List.not_mem_nil, or_false] at hy
          rcases hy with rfl | rfl <;> exact text _ _ _
  cases x with
  | tup h1 h2 h3 h4 =>
    refine tup (n + 1) _ _ _ _ h1 h2 h3 fun y hy => ?_
    generalize hl : Array.toList _ = l at h4 hy
    cases h4 with
    | cons a1 a2 =>
      cases a2 with
      | cons b1 b2 =>
        cases b2
        simp only [List.mem_cons, List.not_mem_nil, or_false] at hy
        rcases hy with rfl | rfl
        · exact inner a1
        · exact inner b1
theorem pp_cls {s : Shared} {k : PP} {b : Addr} (x : PpAt s.heap k b) : ClsAt P w 8 s (.ref b) := pp_open x (T := fun n v => ClsAt P w n s v) (fun _ _ _ => .txt _ _) (fun _ _ _ _ _ h1 h2 h3 h4 => .tup h1 h2 h3 h4) 6
theorem pp_hby {s : Shared} {k : PP} {b : Addr} (x : PpAt s.heap k b) : HbyAt P w 8 s (.ref b) := pp_open x (T := fun n v => HbyAt P w n s v) (fun _ _ _ => .txt _ _) (fun _ _ _ _ _ h1 h2 h3 h4 => .tup h1 h2 h3 h4) 6
theorem pp_seen {A : Around} {E : Value → Shared → Prop} {s : Shared} {k : PP} {b : Addr} {Q : Bool → Shared → Prop} {ys : List Value} (hk : PpAt s.heap k b) (hy : ∀ y ∈ ys, ∃ z c, y = Value.ref c ∧ PpAt s.heap z c) (h : Q false s) : wpAny (model P w) A (searchCouldBeSeen (.ref b) ys) Q E s := by
  unfold searchCouldBeSeen
  refine wpAny_bind ?_
  refine wpAny_forIn_list _ (fun rest r s' => r.1 = none ∧ s' = s ∧ ∀ y ∈ rest, ∃ z c, y = Value.ref c ∧ PpAt s.heap z c) _ ?_ ?_ _ _ ⟨rfl, rfl, hy⟩
  · rintro v rest r s' ⟨hr, rfl, each⟩
    obtain ⟨z, c, rfl, hc⟩ := each v List.mem_cons_self
    have more : ∀ y ∈ rest, ∃ z c, y = Value.ref c ∧ PpAt s'.heap z c := fun y z => each y (List.mem_cons_of_mem _ z)
    dsimp only
    by_cases hv : (b == c || (carriedByValue (.ref b) && carriedByValue (.ref c))) = true
    · exact wp_if_pos hv (wpAny_pure ⟨rfl, rfl, more⟩)
    · refine wp_if_neg hv (wpAny_bind (quiet_key _ _ 8 s' hk (by rw [nk_depth]; omega) _ _ _ ?_)); simp only [Bool.not_true, Bool.false_eq_true, if_false]
      refine wpAny_bind (quiet_key _ _ 8 s' hc (by rw [nk_depth]; omega) _ _ _ ?_); simp only [Bool.not_true, Bool.false_eq_true, if_false]
      refine wpAny_bind (pp_cls hk _ _ _ ?_); simp only [Bool.false_eq_true, if_false]
      refine wpAny_bind (pp_cls hc _ _ _ ?_); simp only [Bool.false_eq_true, if_false]
      exact wpAny_pure ⟨rfl, rfl, more⟩
  · rintro ⟨r1, r2⟩ s' ⟨hr, rfl, _⟩
    simp only at hr; subst hr
    exact wpAny_pure h
end
/-- pairs as keys -/
def ppK (P : Program) (w : World) : KF P w PP where
  At := fun h k b => PpAt h k b
  hs := fun k => (nk k).hash w
  eqb := fun {A E s x y a b Q} hu hx hy h => (nestedKind P w).eqBool hu ⟨hx, by rw [nk_depth]; omega⟩ ⟨hy, by rw [nk_depth]; omega⟩ (by
    have e : decide (nk x = nk y) = decide (x = y) := decide_eq_decide.mpr ⟨nk_inj, fun z => by rw [z]⟩
    rw [e]; exact h)
  seen := fun hx hy h => pp_seen hx hy h
  hby := fun hx h => pp_hby hx _ _ _ h
  pyh := fun {A E s x b Q} hu hx h => pyHash_key _ _ _ _ _ hx (by rw [nk_depth]; omega) (h _)
  other := fun hb ho hd hs => NestedIs.at (fun c oc vs n hc hv => by
    refine (hs.2 c fun z => ?_).trans hc
    rw [z, ho] at hc; cases hc; rw [hd] at hv; cases hv) _ _ hb
  kept := fun hb hk => NestedIs.at (fun c oc vs n hc _ => hk c oc hc) _ _ hb
/-! ### over the layer -/
/-- at b a tuple of two edges worth k -/
def PpH (H : Hp) (b : Addr) (k : PP) : Prop := ∃ e f, H b = some (.tup [.ref e, .ref f]) ∧ H e = some (.tup [.str k.1.1, .str k.1.2]) ∧ H f = some (.tup [.str k.2.1, .str k.2.2])
theorem PpH.same {H H' : Hp} {b : Addr} {k : PP} (h : PpH H b k) (s : Same H H') : PpH H' b k := let ⟨e, f, x, y, z⟩ := h; ⟨e, f, s _ _ x, s _ _ y, s _ _ z⟩
/-- what is no tuple may change -/
theorem PpH.upd {H : Hp} {a b : Addr} {k : PP} {o o' : HO} (h : PpH H b k) (ha : H a = some o) (n : ∀ xs, o ≠ .tup xs) : PpH (L2.upd H a o') b k := by
  obtain ⟨e, f, x, y, z⟩ := h
  have ne : ∀ {c : Addr} {xs : List V}, H c = some (.tup xs) → c ≠ a := fun hc q => by rw [q, ha] at hc; exact n _ (Option.some.inj hc)
  exact ⟨e, f, by rw [upd_ne (ne x)]; exact x, by rw [upd_ne (ne y)]; exact y, by rw [upd_ne (ne z)]; exact z⟩
section
variable {X : Cx} {pins : List (Addr × Obj)} {σ : L2.St} {H : Hp} {s : Shared}
theorem edge_is {e : Addr} {u v : Str} (I : L2.Inv X pins σ H s) (h : H e = some (.tup [.str u, .str v])) : NestedIs s.heap (.tup [.text u, .text v]) (.ref e) := by
  obtain ⟨its, r, ⟨o, ho, hc, n, hd⟩, _⟩ := I.tuple (SqT.of h)
  obtain ⟨v1, v2, rfl, ⟨t1, rfl⟩, ⟨t2, rfl⟩⟩ := vals2 r
  exact .tup ho hc hd (.cons (.text _ _) (.cons (.text _ _) .nil))
theorem pp_is {b : Addr} {k : PP} (I : L2.Inv X pins σ H s) (h : PpH H b k) : PpAt s.heap k b := by
  obtain ⟨e, f, hb, he, hf⟩ := h
  obtain ⟨its, r, ⟨o, ho, hc, n, hd⟩, _⟩ := I.tuple (SqT.of hb)
  obtain ⟨v1, v2, rfl, r1, r2⟩ := vals2 r
  cases (show v1 = Value.ref e from r1)
  cases (show v2 = Value.ref f from r2)
  exact .tup ho hc hd (.cons (edge_is I he) (.cons (edge_is I hf) .nil))
/-- the set at a, but for the keys' own tuples -/
def SetIn (P : Program) (w : World) (a : Addr) (L : List (Addr × PP)) (h : Heap) : Prop :=
  ∃ es ep t, (∃ o, h.get? a = some o ∧ o.ExactSet ∧ o.data = .set es ep t) ∧ es.toList = rowsK (ppK P w) L ∧ TabG t (hsK (ppK P w) L) ∧ (L.map (·.2)).Nodup ∧ L.length * 5 < t.mask * 3 ∧ L.length < 250
def SetN (P : Program) (w : World) (a : Addr) (L : List (Addr × PP)) : HO := .ext (SetIn P w a L)
theorem setN_ok {P : Program} {w : World} {H : Hp} {h : Heap} {a : Addr} {L : List (Addr × PP)} (R : SetIn P w a L h) : ObjOk P w H h a (SetN P w a L) := by
  have ⟨es, ep, t, ⟨o, ho, _⟩, _⟩ := R
  exact ⟨R, ⟨o, ho⟩, fun h1 h2 ⟨es', ep', t', ⟨o', ho', r'⟩, q'⟩ k => ⟨es', ep', t', ⟨o', k o' ho', r'⟩, q'⟩⟩
theorem SK.isIn {P : Program} {w : World} {h : Heap} {a : Addr} {L : List (Addr × PP)} {es : Array (Int × Value)} {ep : Nat} {t : SetTable} (R : SK (ppK P w) h a L es ep t) : SetIn P w a L h := ⟨es, ep, t, R.obj, R.row, R.tab, R.nod, R.roo, R.few⟩
theorem setN_get {a : Addr} {L : List (Addr × PP)} (I : L2.Inv X pins σ H s) (ha : H a = some (SetN X.prog X.w a L)) (hk : ∀ p ∈ L, PpH H p.1 p.2) : ∃ es ep t, SK (ppK X.prog X.w) s.heap a L es ep t := by
  obtain ⟨es, ep, t, h1, h2, h3, h4, h5, h6⟩ := (I.hok a _ ha).1
  exact ⟨es, ep, t, h1, h2, h3, h4, fun p hp => pp_is I (hk p hp), h5, h6⟩
/-- set() -/
def rSet0N (P : Program) (w : World) : List V → Hp → VK → Prop := fun xs H Q => xs = [] ∧ ∀ p, H p = none → Q (.ref p) (L2.upd H p (SetN P w p []))
theorem cr_set0N : CallR X (.type "set") (rSet0N X.prog X.w) := by
  intro pins s σ H xs us Q I r h
  obtain ⟨rfl, q⟩ := h
  cases r
  refine setR_new fun _ => ?_
  have new := SK.new (F := ppK X.prog X.w) (h := s.heap.push (newSet X.w)) (a := s.heap.objs.size) (b := !X.w.params.followText "set-order") (Heap.get?_push_size _ rfl)
  exact ⟨.ref _, L2.upd H s.heap.objs.size (SetN X.prog X.w s.heap.objs.size []), I.laid (t' := s.toks) (fun b u e => Heap.get?_push_of_some _ e) (Nat.le_refl _) (setN_ok new.isIn), rfl, q _ (I.hok.fresh (Nat.le_refl _))⟩
/-- seen.add(pair) -/
def rSAddN (P : Program) (w : World) : V → List V → Hp → VK → Prop := fun x xs H Q => ∃ (a b : Addr) (k : PP) (L : List (Addr × PP)), x = V.ref a ∧ xs = [.ref b] ∧ H a = some (SetN P w a L) ∧ (∀ p ∈ L, PpH H p.1 p.2) ∧ PpH H b k ∧ L.length + 1 < 250 ∧
  ∀ L', (k ∈ L.map (·.2) → L' = L) → (k ∉ L.map (·.2) → L'.Perm ((b, k) :: L)) → Q .non (L2.upd H a (SetN P w a L'))
theorem mt_saddN (hu : X.A.units + 64 < cLine) : MtR X "set.add" (rSAddN X.prog X.w) := by
  intro pins s σ H x xs v us Q I rx rxs h
  obtain ⟨a, b, k, L, rfl, rfl, ha, hk, hb, few, q⟩ := h
  cases rx
  rw [Vals.ref1 rxs]
  obtain ⟨es, ep, t, R⟩ := setN_get I ha hk
  obtain ⟨o, ho, hex, hd⟩ := R.obj
  have ty : s.TypeIs (.ref a) "set" := ⟨o, ho, hex.1⟩
  refine wpAny_call_entry PySem.F.slot_set_add ty PySem.F.entry_set_add ?_ (PySem.F.args_set_add_2 _ _)
  unfold Builtin.«set.add» Builtin.Frozenset.oneOther
  simp only [List.isEmpty_nil, bind_assoc]
  unfold Builtin.Frozenset.addrOf setAdd
  refine wpAny_bind (wpAny_pure ?_)
  try dsimp only
  refine wpAny_bind (wpAny_pure ?_)
  try dsimp only
  refine wpAny_bind (wpAny_holding (wpAny_bind ((ppK X.prog X.w).pyh (by simp; omega) (pp_is I hb) fun tn => ?_)))
  refine put_in (s := { s with toks := s.toks + tn }) R (show (ppK X.prog X.w).At s.heap k b from pp_is I hb) (by simp; omega) few fun c h' L' es' ep' t' sb R' c1 c2 => ?_
  show wpAny _ _ (ret Value.none) _ _ _
  obtain ⟨o', ho', _⟩ := R'.obj
  exact wpAny_pure ⟨_, rfl, .non, L2.upd H a (SetN X.prog X.w a L'), I.write (e := a) (t' := s.toks + tn) (by rw [ha]; trivial) (.inl rfl) (fun b u hb hu => (sb.2 b hb).trans hu) ⟨o', ho'⟩ (setN_ok R'.isIn), rfl, q L' c1 c2⟩
/-- pair in seen -/
def rSInN (P : Program) (w : World) : V → V → Hp → VK → Prop := fun x y H Q => ∃ (b a : Addr) (k : PP) (L : List (Addr × PP)), x = .ref b ∧ y = V.ref a ∧ H a = some (SetN P w a L) ∧ (∀ p ∈ L, PpH H p.1 p.2) ∧ PpH H b k ∧ Q (.bl (decide (k ∈ L.map (·.2)))) H
theorem or_sinN (hu : X.A.units + 64 < cLine) : OpR X (compareOp .In) (rSInN X.prog X.w) := by
  intro pins s σ H x y v u Q I rx ry h
  obtain ⟨b, a, k, L, rfl, rfl, ha, hk, hb, q⟩ := h
  cases rx
  cases ry
  obtain ⟨es, ep, t, R⟩ := setN_get I ha hk
  obtain ⟨o, ho, hex, hd⟩ := R.obj
  have ty : s.TypeIs (.ref a) "set" := ⟨o, ho, hex.1⟩
  show wpAny _ _ (do return Value.bool (← contains (.ref a) (.ref b))) _ _ s
  refine wpAny_bind ?_
  unfold contains
  try with_reducible refine wpAny_holding ?_
  refine wpAny_bind (wpAny_specialOf ty PySem.F.slot_set_contains.lookup ?_)
  rw [if_neg (by rw [beq_builtin_none]; exact Bool.false_ne_true)]
  refine wpAny_bind (wpAny_callSpecialUnlessNone?_slot (name := Str.ofString "__contains__") ty PySem.F.slot_set_contains (wpAny_call_entry PySem.F.slot_set_contains ty PySem.entry_set_contains ?_ (PySem.F.args_set_contains_2 _ _)))
  unfold Builtin.«frozenset.__contains__» Builtin.Frozenset.oneOther
  simp only [List.isEmpty_nil, bind_assoc]
  unfold Builtin.Frozenset.addrOf Builtin.Frozenset.withSetAsKey setContains
  refine wpAny_bind (wpAny_pure ?_)
  try dsimp only
  refine wpAny_bind (wpAny_pure ?_)
  try dsimp only
  refine wpAny_bind (wpAny_tryCatch (wpAny_holding (wpAny_bind ((ppK X.prog X.w).pyh (by simp; omega) (pp_is I hb) fun tn => ?_))))
  refine wpAny_bind (find_in (s := { s with toks := s.toks + tn }) R (show (ppK X.prog X.w).At s.heap k b from pp_is I hb) (by simp; omega) fun r hr => wpAny_pure ?_)
  show wpAny _ _ (ret (Value.bool r.isSome)) _ _ _
  have hr2 : r.isSome = decide (k ∈ L.map (·.2)) := hr.trans (decide_eq_decide.mpr Iff.rfl)
  rw [hr2]
  exact wpAny_pure ⟨_, rfl, wpAny_truthy_bool (wpAny_pure ⟨.bl _, H, I.tok _, rfl, q⟩)⟩
end
end CP
namespace CP
open PySem PySem.Spec PyProof.Rows L2
section
variable {X : Cx} {o e : Expr} {es : List Expr} {to : TE} {t : TA} {apos cpos : Pos}
def tSAddN (P : Program) (w : World) (to : TE) (t : TA) : TE := fun σ H Q => to σ H fun x H1 => (∃ a L, x = V.ref a ∧ H1 a = some (SetN P w a L)) ∧ t σ H1 fun xs H2 => rSAddN P w x xs H2 Q
/-- seen.add(pair), as it is written -/
theorem pe_saddNN (hu : X.A.units + 64 < cLine) (ho : PE X o to) (ha : PA X (e :: es) t) (hbase : attributeBase o "add" X.env (eval o X.env) = eval o X.env := by rfl)
    (hfew : ((backTo cpos (starEach (e :: es) X.env)).all (fun x => !x.1) && (backToKw cpos (keywordEach [] X.env)).all (fun x => x.1.isSome) && decide ((e :: es).length + ([] : List Keyword).length + (if ([] : List Keyword).isEmpty then 0 else 1) < 30)) = true := by rfl)
    (hline : (apos.endLine == cpos.line) = true := by rfl) (hs : starEach (e :: es) X.env = (false, eval e X.env) :: starEach es X.env := by rfl) (hplain : (backTo cpos (starEach es X.env)).any (·.1) = false := by rfl) :
    PE X (.Call (.Attribute o "add" apos) (e :: es) [] cpos) (tSAddN X.prog X.w to t) := by
  refine ⟨fun pins s σ H Q I h => wpAny_Call_method_late hbase hfew hline rfl (thn (ho.run pins s σ H _ I h) fun v s1 ⟨x, H1, I1, r1, ⟨a, L, ex, hS⟩, q1⟩ => ?_)⟩
  subst ex
  cases r1
  obtain ⟨es', ep, tb, ⟨ob, h1, h2, h3⟩, _⟩ := (I1.hok a _ hS).1
  have nd : ∀ b, Value.ref a = .ref b → ∃ o', s1.heap.get? b = some o' ∧ o'.dict = none := fun b z => by cases z; exact ⟨ob, h1, h2.2.1⟩
  refine ⟨"set", "set.add", F.plainAttrs_set, F.slot_set_add, F.type_set_add, ⟨ob, h1, h2.1⟩, nd, ?_⟩
  have hA := ha.run cpos pins s1 σ H1 _ I1 q1
  rw [hs] at hA ⊢
  refine Calls.callWith_builtin (by show (false || (backTo cpos (starEach es X.env)).any (·.1)) = false; rw [hplain]; rfl) (Calls.evalArgs_plain (thn hA fun us s2 ⟨vs, H2, I2, r2, q2⟩ => ?_))
  exact mt_saddN hu pins s2 σ H2 (.ref a) vs (.ref a) us Q I2 rfl r2 q2
end
end CP
/-! Dicts whose keys are pairs of pairs of texts -/
namespace CP
open PySem PySem.Spec PyProof.Rows L2
/-! ### the content: keys, the places of the keys' tuples, values -/
abbrev Cn := List (PP × Addr × V)
def valN (xs : Cn) (k : PP) : Option V := (xs.find? fun x => decide (x.1 = k)).map (·.2.2)
def putN (xs : Cn) (k : PP) (b : Addr) (v : V) : Cn := if (valN xs k).isSome = true then xs.map (fun x => if x.1 = k then (x.1, x.2.1, v) else x) else xs ++ [(k, b, v)]
def LikeN (x : PP × Addr × V) (u : NestedKey × Addr × Value) : Prop := u.1 = nk x.1 ∧ u.2.1 = x.2.1 ∧ RelV x.2.2 u.2.2
theorem valN_cons (x : PP × Addr × V) (xs : Cn) (k : PP) : valN (x :: xs) k = if x.1 = k then some x.2.2 else valN xs k := by
  unfold valN
  by_cases c : x.1 = k <;> simp [List.find?_cons, c]
theorem atKey_cons (u : NestedKey × Addr × Value) (us : List (NestedKey × Addr × Value)) (k : NestedKey) : atKey (u :: us) k = if u.1 = k then some u.2 else atKey us k := by
  unfold atKey
  by_cases c : u.1 = k <;> simp [List.find?_cons, c]
theorem like_at {k : PP} : ∀ {xs : Cn} {us : List (NestedKey × Addr × Value)}, Paired LikeN xs us → (valN xs k = none ∧ atKey us (nk k) = none) ∨ ∃ v p, valN xs k = some v ∧ atKey us (nk k) = some p ∧ RelV v p.2
  | _, _, .nil => .inl ⟨rfl, rfl⟩
  | _, _, .cons (a := x) (b := u) h t => by
    rw [valN_cons, atKey_cons]
    by_cases c : x.1 = k
    · rw [if_pos c, if_pos (by rw [h.1, c])]
      exact .inr ⟨_, _, rfl, rfl, h.2.2⟩
    · rw [if_neg c, if_neg (fun z => c (nk_inj (h.1.symm.trans z)))]
      exact like_at t
theorem like_map {k : PP} {v : V} {u : Value} (rv : RelV v u) : ∀ {xs : Cn} {us : List (NestedKey × Addr × Value)}, Paired LikeN xs us → Paired LikeN (xs.map fun x => if x.1 = k then (x.1, x.2.1, v) else x) (us.map (putAt (nk k) u))
  | _, _, .nil => .nil
  | _, _, .cons (a := x) (b := y) h t => by
    refine .cons ?_ (like_map rv t)
    show LikeN (if x.1 = k then (x.1, x.2.1, v) else x) (if y.1 = nk k then (y.1, y.2.1, u) else y)
    by_cases c : x.1 = k
    · rw [if_pos c, if_pos (by rw [h.1, c])]; exact ⟨h.1, h.2.1, rv⟩
    · rw [if_neg c, if_neg (fun z => c (nk_inj (h.1.symm.trans z)))]; exact h
theorem like_put {k : PP} {b : Addr} {v : V} {u : Value} (rv : RelV v u) {xs : Cn} {us : List (NestedKey × Addr × Value)} (h : Paired LikeN xs us) : Paired LikeN (putN xs k b v) (storedH us (nk k) b u) := by
  unfold putN
  rcases like_at (k := k) h with ⟨e1, e2⟩ | ⟨v0, p, e1, e2, _⟩
  · rw [e1, storedH_new e2, if_neg (by decide)]
    exact h.snoc ⟨rfl, rfl, rv⟩
  · rw [e1, storedH_old e2, if_pos (by rfl)]
    exact like_map rv h
theorem valN_map (k j : PP) (v : V) : ∀ xs : Cn, valN (xs.map fun x => if x.1 = k then (x.1, x.2.1, v) else x) j = if j = k then (valN xs k).map (fun _ => v) else valN xs j
  | [] => by by_cases c : j = k <;> simp [valN, c]
  | x :: xs => by
    rw [List.map_cons, valN_cons, valN_map k j v xs, valN_cons, valN_cons]
    by_cases c : x.1 = k
    · by_cases d : j = k
      · subst d; simp [c]
      · have : ¬ k = j := fun z => d z.symm
        simp [c, d, this]
    · by_cases d : j = k
      · subst d; simp [c]
      · simp [c, d]
theorem valN_snoc (k j : PP) (b : Addr) (v : V) : ∀ xs : Cn, valN xs k = none → valN (xs ++ [(k, b, v)]) j = if j = k then some v else valN xs j
  | [], _ => by
    show valN [(k, b, v)] j = _
    rw [valN_cons]
    by_cases c : j = k
    · subst c; simp
    · have : ¬ k = j := fun z => c z.symm
      simp [this, c]
  | x :: xs, h => by
    rw [valN_cons] at h
    by_cases c : x.1 = k
    · rw [if_pos c] at h; cases h
    · rw [if_neg c] at h
      rw [List.cons_append, valN_cons, valN_snoc k j b v xs h, valN_cons]
      by_cases d : j = k
      · subst d; simp [c]
      · simp [d]
theorem valN_put (xs : Cn) (k j : PP) (b : Addr) (v : V) : valN (putN xs k b v) j = if j = k then some v else valN xs j := by
  unfold putN
  cases e : valN xs k with
  | none => rw [if_neg (by decide)]; exact valN_snoc k j b v xs e
  | some v0 => rw [if_pos (by rfl), valN_map, e]; rfl
theorem putN_len (xs : Cn) (k : PP) (b : Addr) (v : V) : (putN xs k b v).length ≤ xs.length + 1 := by
  unfold putN; split
  · rw [List.length_map]; omega
  · rw [List.length_append]; simp
theorem putN_old {xs : Cn} {k : PP} (h : (valN xs k).isSome = true) (b : Addr) (v : V) : (putN xs k b v).length = xs.length := by
  unfold putN; rw [if_pos h, List.length_map]
theorem putN_mem {xs : Cn} {k : PP} {b : Addr} {v : V} {x : PP × Addr × V} (h : x ∈ putN xs k b v) : (x.1 = k ∧ x.2.1 = b) ∨ ∃ y ∈ xs, x.1 = y.1 ∧ x.2.1 = y.2.1 := by
  unfold putN at h; split at h
  · obtain ⟨y, hy, rfl⟩ := List.mem_map.mp h
    refine .inr ⟨y, hy, ?_⟩
    split <;> exact ⟨rfl, rfl⟩
  · rcases List.mem_append.mp h with h | h
    · exact .inr ⟨x, h, rfl, rfl⟩
    · rw [List.mem_singleton.mp h]; exact .inl ⟨rfl, rfl⟩
/-- the dict at a, but for the keys' own tuples -/
def DctIn (P : Program) (w : World) (a : Addr) (xs : Cn) (h : Heap) : Prop :=
  ∃ o es ep us, h.get? a = some o ∧ o.ExactDict ∧ o.data = .dict es ep ∧ es.toList = us.map (entryOfKey (nestedKind P w)) ∧ (us.map (·.1)).Nodup ∧ Paired LikeN xs us
def DctN (P : Program) (w : World) (a : Addr) (xs : Cn) : HO := .ext (DctIn P w a xs)
theorem dctN_ok {P : Program} {w : World} {H : Hp} {h : Heap} {a : Addr} {xs : Cn} (R : DctIn P w a xs h) : ObjOk P w H h a (DctN P w a xs) := by
  have ⟨o, es, ep, us, ho, _⟩ := R
  exact ⟨R, ⟨o, ho⟩, fun h1 h2 ⟨o', es', ep', us', ho', r⟩ k => ⟨o', es', ep', us', k o' ho', r⟩⟩
theorem dctN_new (P : Program) (w : World) (h : Heap) : DctIn P w h.objs.size [] (h.push { cls := .type "dict", data := .dict #[] }) :=
  ⟨_, #[], 0, [], Heap.get?_push_size _ rfl, ⟨rfl, rfl, rfl⟩, rfl, rfl, List.nodup_nil, .nil⟩
/-- at d a dict that answers g, of at most n keys -/
def DN (P : Program) (w : World) (H : Hp) (d : Addr) (g : PP → Option V) (n : Nat) : Prop := ∃ xs, H d = some (DctN P w d xs) ∧ (∀ x ∈ xs, PpH H x.2.1 x.1) ∧ (∀ k, valN xs k = g k) ∧ xs.length ≤ n
theorem DN.same {P : Program} {w : World} {H H' : Hp} {d : Addr} {g : PP → Option V} {n : Nat} (h : DN P w H d g n) (s : Same H H') : DN P w H' d g n := by
  obtain ⟨xs, a, b, c, e⟩ := h
  exact ⟨xs, s _ _ a, fun x hx => (b x hx).same s, c, e⟩
theorem DN.new {P : Program} {w : World} {H : Hp} {d : Addr} : DN P w (L2.upd H d (DctN P w d [])) d (fun _ => none) 0 := ⟨[], upd_same, (fun _ z => nomatch z), fun _ => rfl, Nat.le_refl _⟩
theorem no_tup {f : Heap → Prop} : ∀ xs : List V, (HO.ext f) ≠ .tup xs := fun xs z => by cases z
theorem PpH.new {H : Hp} {d b : Addr} {k : PP} {o : HO} (h : PpH H b k) (hd : H d = none) : PpH (L2.upd H d o) b k := h.same fun c u e => by rw [upd_ne (ne_of_none e hd)]; exact e
section
variable {X : Cx} {pins : List (Addr × Obj)} {σ : L2.St} {H : Hp} {s : Shared}
theorem dctN_get {d : Addr} {xs : Cn} (I : L2.Inv X pins σ H s) (hd : H d = some (DctN X.prog X.w d xs)) (hk : ∀ x ∈ xs, PpH H x.2.1 x.1) : ∃ us, s.heap.DictOfH (nestedKind X.prog X.w) d us ∧ Paired LikeN xs us ∧ us.length = xs.length := by
  obtain ⟨o, es, ep, us, h1, h2, h3, h4, h5, h6⟩ := (I.hok d _ hd).1
  have all : ∀ {xs : Cn} {us : List (NestedKey × Addr × Value)}, Paired LikeN xs us → (∀ x ∈ xs, PpH H x.2.1 x.1) → ∀ u ∈ us, (nestedKind X.prog X.w).is s.heap u.1 u.2.1 := by
    intro xs us p
    induction p with
    | nil => intro _ u hu; cases hu
    | @cons x u xs us l _ ih =>
      intro h y hy
      rcases List.mem_cons.mp hy with rfl | hy
      · have q := pp_is I (h x List.mem_cons_self)
        rw [l.1, l.2.1]
        exact ⟨q, by rw [nk_depth]; omega⟩
      · exact ih (fun z hz => h z (List.mem_cons_of_mem _ hz)) y hy
  exact ⟨us, ⟨o, es, ep, h1, h2, h3, h4, all h6 hk, h5⟩, h6, (Paired.length h6).symm⟩
/-- d[k] -/
def rGetN (P : Program) (w : World) : R2 := fun x y H Q => ∃ (d b : Addr) (k : PP) (g : PP → Option V) (n : Nat) (v : V), x = .ref d ∧ y = .ref b ∧ DN P w H d g n ∧ PpH H b k ∧ g k = some v ∧ Q v H
def tGetN (P : Program) (w : World) (td ty : TE) : TE := fun σ H Q => td σ H fun x H1 => ty σ H1 fun y H2 => rGetN P w x y H2 Q
theorem pe_getN {o i : Expr} {td ty : TE} {pos : Pos} (hu : X.A.units + 64 < cLine) (ho : PE X o td) (hi : PE X i ty) (hs : NoSl i) : PE X (.Subscript o i pos) (tGetN X.prog X.w td ty) := by
  refine ⟨fun pins s σ H Q I h => ?_⟩
  refine subD_of PySem.F.slot_dict_getitem.lookup hs (thn (ho.run pins s σ H _ I h) fun u s1 ⟨x, H1, I1, rx, q1⟩ => thn (hi.run pins s1 σ H1 _ I1 q1) fun iv s2 ⟨y, H2, I2, ry, d, b, k, g, n, v, ex, ey, ⟨xs, h1, h2, h3, h4⟩, hb, hg, q⟩ => ?_)
  subst ex ey
  cases rx
  cases ry
  obtain ⟨us, D, l, _⟩ := dctN_get I2 h1 h2
  refine ⟨D.typeIs, ?_⟩
  rcases like_at (k := k) l with ⟨e1, _⟩ | ⟨v0, p, e1, e2, rv⟩
  · rw [h3 k, hg] at e1; cases e1
  · rw [h3 k, hg] at e1
    obtain rfl : v = v0 := Option.some.inj e1
    refine wpAny_getItem_heap (knd := nestedKind X.prog X.w) (by show _ + 8 < cLine; simp; omega) ⟨pp_is I2 hb, by rw [nk_depth]; omega⟩ D e2 ?_
    exact ⟨v, H2, I2.tok _, rv, q⟩
/-- d[k] = v -/
def rPutN (P : Program) (w : World) : TSet := fun o i v H Q => ∃ (d b : Addr) (k : PP) (g : PP → Option V) (n : Nat), o = .ref d ∧ i = .ref b ∧ DN P w H d g n ∧ PpH H b k ∧ n ≤ 1000 ∧
  ∀ u, DN P w (L2.upd H d u) d (fun j => if j = k then some v else g j) (if (g k).isSome = true then n else n + 1) → (∀ c x, PpH H c x → PpH (L2.upd H d u) c x) → Q (L2.upd H d u)
theorem DN.put {P : Program} {w : World} {d b : Addr} {k : PP} {g : PP → Option V} {n : Nat} {v : V} {xs : Cn} (h1 : H d = some (DctN P w d xs)) (h2 : ∀ x ∈ xs, PpH H x.2.1 x.1) (h3 : ∀ k, valN xs k = g k) (h4 : xs.length ≤ n) (hb : PpH H b k) :
    DN P w (L2.upd H d (DctN P w d (putN xs k b v))) d (fun j => if j = k then some v else g j) (if (g k).isSome = true then n else n + 1) := by
  refine ⟨_, upd_same, fun x hx => ?_, fun j => by rw [valN_put, h3], ?_⟩
  · rcases putN_mem hx with ⟨e1, e2⟩ | ⟨y, hy, e1, e2⟩
    · rw [e1, e2]; exact hb.upd h1 no_tup
    · rw [e1, e2]; exact (h2 y hy).upd h1 no_tup
  · by_cases c : (g k).isSome = true
    · rw [if_pos c, putN_old (by rw [h3]; exact c)]; exact h4
    · rw [if_neg c]; exact Nat.le_trans (putN_len _ _ _ _) (by omega)
theorem set_dictN (hu : X.A.units + 64 < cLine) : PSet X (rPutN X.prog X.w) := by
  intro pins s σ H o i v ov iv u Q I ro ri rv h
  obtain ⟨d, b, k, g, n, rfl, rfl, ⟨xs, h1, h2, h3, h4⟩, hb, few, q⟩ := h
  cases ro
  cases ri
  obtain ⟨us, D, l, le⟩ := dctN_get I h1 h2
  refine wpAny_setItem_heap (knd := nestedKind X.prog X.w) (hsz := by rw [le, sizeLine_eq]; omega) (by show _ + 8 < cLine; simp; omega) ⟨pp_is I hb, by rw [nk_depth]; omega⟩ D fun h' D' sb => ?_
  obtain ⟨o', es', ep', g1, g2, g3, g4, _, g6⟩ := D'
  have R : DctIn X.prog X.w d (putN xs k b v) h' := ⟨o', es', ep', _, g1, g2, g3, g4, g6, like_put rv l⟩
  exact ⟨_, I.write (e := d) (t' := s.toks + (nestedKind X.prog X.w).draws (nk k)) (by rw [h1]; trivial) (.inl rfl) (fun c u hc hu => (sb.2 c hc).trans hu) ⟨o', g1⟩ (dctN_ok R), q _ (DN.put h1 h2 h3 h4 hb) fun c x p => p.upd h1 no_tup⟩
end
end CP
/-! Dict comprehensions whose keys are pairs of pairs of texts -/
namespace CP
open PySem PySem.Spec PyProof.Rows L2
/-- D[k] = v by the comprehension -/
def sPutN (P : Program) (w : World) (D : Addr) (y z : V) (H : Hp) (Nx : Hp → Prop) : Prop := ∃ (b : Addr) (k : PP) (g : PP → Option V) (n : Nat), y = .ref b ∧ DN P w H D g n ∧ PpH H b k ∧ n ≤ 1000 ∧
  ∀ u, DN P w (L2.upd H D u) D (fun j => if j = k then some z else g j) (if (g k).isSome = true then n else n + 1) → (∀ c x, PpH H c x → PpH (L2.upd H D u) c x) → Nx (L2.upd H D u)
def tDcN (P : Program) (w : World) (wi : TI) (g : TG) (tt : TT) (tk tv : TE) (vs : List Nat) : TE := fun σ H Q => wi σ H fun J H1 => ∀ D, H1 D = none → ∃ W : Nat → Nat → Hp → Prop, (∃ m, W 0 m (L2.upd H1 D (DctN P w D []))) ∧ ∀ i m H, W i m H →
  (J.stop i H ∧ Q (.ref D) H) ∨ (J.go i H ∧ ∃ Nx : Hp → Prop, (∀ H', Nx H' → ∃ m', m' < m ∧ W (i + 1) m' H') ∧ ∀ x H', J.yld i H x H' → g x (wipe σ vs) H' fun σ2 H2 => wipe σ2 vs = wipe σ vs ∧ tt σ2 H2 fun b H3 =>
    if b = true then tk σ2 H3 fun y H4 => tv σ2 H4 fun z H5 => sPutN P w D y z H5 Nx else Nx H3)
section
variable {X : Cx}
theorem dictSet_N {pins : List (Addr × Obj)} {σ : L2.St} {H : Hp} {s : Shared} {E : Value → Shared → Prop} {D : Addr} {y z : V} {uy uz : Value} {Nx : Hp → Prop} {Q : Unit → Shared → Prop} (room : X.A.units + 64 < cLine) (V0 : L2.Inv X pins σ H s) (ry : RelV y uy) (rz : RelV z uz) (h : sPutN X.prog X.w D y z H Nx)
    (fin : ∀ s' H', L2.Inv X pins σ H' s' → Nx H' → Q () s') : wpAny (model X.prog X.w) X.A (dictSet D uy uz) Q E s := by
  obtain ⟨b, k, g, n, rfl, ⟨xs, h1, h2, h3, h4⟩, hb, few, q⟩ := h
  cases ry
  obtain ⟨us, M, l, le⟩ := dctN_get V0 h1 h2
  refine wpAny_dictSet_heap (knd := nestedKind X.prog X.w) (hsz := by rw [le, sizeLine_eq]; omega) (by show _ + 8 < cLine; omega) ⟨pp_is V0 hb, by rw [nk_depth]; omega⟩ M fun h' M' sb => ?_
  obtain ⟨o', es', ep', g1, g2, g3, g4, _, g6⟩ := M'
  have R : DctIn X.prog X.w D (putN xs k b z) h' := ⟨o', es', ep', _, g1, g2, g3, g4, g6, like_put rz l⟩
  refine fin _ _ (V0.write (e := D) (t' := s.toks + (nestedKind X.prog X.w).draws (nk k)) (by rw [h1]; trivial) (.inl rfl) (fun c u hc hu => (sb.2 c hc).trans hu) ⟨o', g1⟩ (dctN_ok R)) ?_
  exact q _ (DN.put h1 h2 h3 h4 hb) fun c x p => p.upd h1 no_tup
theorem pe_dcN {kx vx tg iter : Expr} {ifs : List Expr} {scope : Scope} {own : List (Str × Nat)} {pos : Pos} {wi : TI} {g : TG} {tt : TT} {tk tv : TE} (calm : X.calm = true) (once : X.N.Nodup) (room : X.A.units + 64 < cLine) (ri : PI X tg iter wi) (blk : BlkOk X.N X.env.scope scope own)
    (rg : ∀ s H C cl fp, PG (X.blk s H scope (compEnvC scope cl C X.env) fp) tg g) (rt : ∀ s H C cl fp, PTs (X.blk s H scope (compEnvC scope cl C X.env) fp) ifs tt)
    (rk : ∀ s H C cl fp, PE (X.blk s H scope (compEnvC scope cl C X.env) fp) kx tk) (rv : ∀ s H C cl fp, PE (X.blk s H scope (compEnvC scope cl C X.env) fp) vx tv) (plain : ∀ x, foldedSetIterable iter X.env x = pure x := by intro _; rfl) :
    PE X (.DictComp kx vx [⟨tg, iter, ifs, 0⟩] scope pos) (tDcN X.prog X.w wi g tt tk tv (own.map (·.2))) := by
  refine ⟨fun pins s σ H Q V0 want => ?_⟩
  rw [arm_eval_DictComp]
  have cells : ∀ y ∈ scope.names, y.2 = .free → ∃ c, X.env.cells.lookup y.1 = some c := fun y hy e => (blk.free y hy e).elim (fun q => V0.ok.has _ (.inl q)) fun q => V0.ok.has _ (.inr q)
  refine wpAny_comprehension_free rfl plain (closure_ok cells) blk.kind (fun y hy e => by rw [blk.uniq y hy, e]) (thn (ri.run pins s σ H _ V0 want) fun xv s1 hx => thn hx fun itv s2 ⟨it, fp, tn, J, H2, e, V2, T, w2, p2, q⟩ => ?_)
  subst e
  refine wpAny_newObj_type (newEnv_comp ?_)
  have big := V2.big
  -- the new dict at D, and the block's own names behind it
  generalize eD : s2.heap.objs.size = D
  have nD : H2 D = none := V2.hok.fresh (Nat.le_of_eq eD)
  obtain ⟨W, ⟨m0, w0⟩, turn⟩ := q D nD
  generalize e3 : ({ s2 with heap := s2.heap.push { cls := .type "dict", data := .dict #[] } } : Shared) = s3
  have hp3 : s3.heap = s2.heap.push { cls := .type "dict", data := .dict #[] } := by rw [← e3]
  have V3 : L2.Inv X pins σ (L2.upd H2 D (DctN X.prog X.w D [])) s3 := by
    subst e3
    refine V2.laid (t' := s2.toks) (fun b o e => Heap.get?_push_of_some _ e) (Nat.le_of_eq eD) ?_
    subst eD
    exact dctN_ok (dctN_new X.prog X.w s2.heap)
  have old : ∀ b ∈ fp, b < s2.heap.objs.size := fun b hb => let ⟨_, e, _⟩ := T.obj _ _ w2 b hb; Heap.lt_size e
  have p3 : ∀ b ∈ fp, FpOk X pins (L2.upd H2 D (DctN X.prog X.w D [])) b ∧ b < s3.heap.objs.size := fun b hb => by
    have lt := old b hb
    refine ⟨⟨by rw [upd_ne (by rw [← eD]; exact Nat.ne_of_lt lt)]; exact (p2 b hb).1, (p2 b hb).2⟩, ?_⟩
    rw [hp3, Heap.size_push]; exact Nat.lt_succ_of_lt lt
  have w3 : tn 0 s3.heap := T.keep _ _ _ w2 fun b _ o e => hp3 ▸ Heap.get?_push_of_some _ e
  have V4 := block_start V3 blk once p3
  have free3 : ∀ b ∈ fp, (L2.upd H2 D (DctN X.prog X.w D [])) b = none := fun b hb => (p3 b hb).1.1
  generalize hcl : cellsFrom (s3.heap.objs.size + 1) scope.names (cloFrom X.env.cells scope.names []) = cl at V4
  have rg := rg s3 (L2.upd H2 D (DctN X.prog X.w D [])) s3.heap.objs.size cl fp
  have rt := rt s3 (L2.upd H2 D (DctN X.prog X.w D [])) s3.heap.objs.size cl fp
  have rk := rk s3 (L2.upd H2 D (DctN X.prog X.w D [])) s3.heap.objs.size cl fp
  have rv := rv s3 (L2.upd H2 D (DctN X.prog X.w D [])) s3.heap.objs.size cl fp
  show codeAny _ _ (.compStart _ 0 (.ref it) (.ref D) (compEnvC scope cl s3.heap.objs.size X.env)) _ { s3 with heap := pushCells (s3.heap.push { cls := .type "dict", data := .dict #[] }) scope.names }
  generalize hce : compEnvC scope cl s3.heap.objs.size X.env = ce at V4 rg rt rk rv ⊢
  have loc : ce.locals = s3.heap.objs.size := by subst hce; rfl
  generalize L2.upd H2 D (DctN X.prog X.w D []) = H3 at V3 V4 rg rt rk rv w0 free3 p3
  generalize e4 : ({ s3 with heap := pushCells (s3.heap.push { cls := .type "dict", data := .dict #[] }) scope.names } : Shared) = s4 at V4 ⊢
  have w4 : tn 0 s4.heap := T.keep _ _ _ w3 fun b _ o e => by subst e4; exact pushCells_keeps _ _ _ _ (Heap.get?_push_of_some _ e)
  have aside : ∀ {σ' : L2.St} {H' : Hp} {s' : Shared}, L2.Inv (X.blk s3 H3 scope ce fp) [] σ' H' s' → (∀ b ∈ fp, H' b = none) → ∀ b ∈ fp, FpOk (X.blk s3 H3 scope ce fp) [] H' b := fun V' nn b hb =>
    ⟨nn b hb, (V'.ok.exf b hb).1, V'.ok.exfs b hb, .inl hb, fun x c e => (V'.ok.exf b hb).2 x c e, fun p hp => absurd hp (by simp)⟩
  have loop : codeAny (model X.prog X.w) X.A (.compLoop (.DictComp kx vx [⟨tg, iter, ifs, 0⟩] scope pos) 0 (.ref it) (.ref D) ce) (compPost (model X.prog X.w) X.A X.xe none (EP X pins σ Q) (.ref D) s3.heap.objs.size) s4 := by
    refine compLoop_anyD (fun n s' => ∃ i H', L2.Inv (X.blk s3 H3 scope ce fp) [] (wipe σ (own.map (·.2))) H' s' ∧ tn i s'.heap ∧ (∀ b ∈ fp, H' b = none) ∧ W i n H') ?_ m0 ⟨0, H3, V4, w4, free3, w0⟩
    rintro n s5 ⟨i, H5, V5, w5, n5, u5⟩
    rcases turn i n H5 u5 with ⟨halt, got⟩ | ⟨go, Nx, down, step⟩
    · refine thnF (T.done (X.blk s3 H3 scope ce fp) rfl rfl rfl calm i [] s5 _ H5 (fun _ _ => False) V5 (aside V5 n5) w5 halt) fun r s6 ⟨er, V6⟩ => ?_
      subst er
      -- back among the def's own names
      have V7 : L2.Inv X pins σ H5 s6 := V3.call' (ch := fp) V6.os V6.base V6.hok V6.bare fun b hb => let z := (p3 b hb).1.2; ⟨z.2.2.1, z.1, z.2.2.2.1, z.2.2.2.2⟩
      have nC : H5 s3.heap.objs.size = none := loc ▸ V6.free
      obtain ⟨m, ns, _⟩ := V6.loc
      have ns : s6.heap.Ns s3.heap.objs.size m := loc ▸ ns
      obtain ⟨f0, f1, f2, f3, f4, f5⟩ := V3.fpOk (Nat.le_refl _) nC
      exact ⟨m, ns, fun h2 sb => ⟨.ref D, H5, V7.turned (t' := s6.toks) (fun b o hb e => (sb.2 b hb).trans e) f0 f1 f3 f4 f5, rfl, got⟩⟩
    · refine thnF (T.item (X.blk s3 H3 scope ce fp) rfl rfl rfl calm i [] s5 _ H5 (fun _ _ => False) V5 (aside V5 n5) w5 go) fun r s6 ⟨u, er, h6⟩ => ?_
      subst er
      refine thnF h6 fun _ s7 ⟨x, H7, V7, r7, y7, w7, n7⟩ => ?_
      have P7 := V7.pinned (aside V7 n7) (T.obj _ _ w7)
      refine thnF (rg.run _ s7 _ H7 x u _ P7 r7 (step x H7 y7)) fun _ s8 ⟨σ8, H8, V8, same8, q8⟩ => ?_
      refine thnF (rt.run _ s8 σ8 H8 _ V8 q8) fun b s9 ⟨H9, V9, q9⟩ => ?_
      have next : ∀ {s' : Shared} {H' : Hp}, L2.Inv (X.blk s3 H3 scope ce fp) ([] ++ pinsAt fp s7.heap) σ8 H' s' → Nx H' → ∃ m, m < n ∧ ∃ i H', L2.Inv (X.blk s3 H3 scope ce fp) [] (wipe σ (own.map (·.2))) H' s' ∧ tn i s'.heap ∧ (∀ b ∈ fp, H' b = none) ∧ W i m H' := fun {s' H'} V' nx => by
        obtain ⟨m', lt, u'⟩ := down H' nx
        have fixed : ∀ b ∈ fp, ∀ o, s7.heap.get? b = some o → s'.heap.get? b = some o ∧ H' b = none := fun b hb o e =>
          let z := V'.pin (b, o) (List.mem_append_right _ (List.mem_append_right _ (mem_pinsAt hb e))); ⟨z.1, z.2.1⟩
        refine ⟨m', lt, i + 1, H', (V'.unpinned (pins := [])).weak (by rw [← same8, wipe_length]) (fun j v e => (wipe_some (same8 ▸ e)).1), T.keep _ _ _ w7 fun b hb o e => (fixed b hb o e).1, fun b hb => ?_, u'⟩
        obtain ⟨o, e, _⟩ := T.obj _ _ w7 b hb
        exact (fixed b hb o e).2
      cases b with
      | false =>
        simp only [Bool.false_eq_true, if_false] at q9 ⊢
        exact next V9 q9
      | true =>
        simp only [if_true] at q9 ⊢
        refine thnF (rk.run _ s9 σ8 H9 _ V9 q9) fun z1 s10 ⟨yk, H10, V10, r10, q10⟩ => thnF (rv.run _ s10 σ8 H10 _ V10 q10) fun z2 s11 ⟨yv, H11, V11, r11, q11⟩ => ?_
        exact dictSet_N (X := X.blk s3 H3 scope ce fp) room V11 r10 r11 q11 fun s12 H12 V12 nx => next V12 nx
  exact codeAny_compStart_dict loop (T.self X.A 0 _ _ _ w4 loop)
/-- over any walk -/
theorem dcN_it {P : Program} {w : World} {J : It} {n : Nat} {G : Hp → Prop} {Y : Nat → Hp → V → Hp → Prop} (wk : Walk J n G Y) {g : TG} {tt : TT} {tk tv : TE} {vs : List Nat} {σ : L2.St} {H1 : Hp} {D : Addr} {Qd : Hp → Prop} (Pv : Nat → Hp → Prop) (h0 : Pv 0 (L2.upd H1 D (DctN P w D []))) (hG : ∀ i H, i ≤ n → Pv i H → G H)
    (hs : ∀ i x H H', i < n → Pv i H → Y i H x H' → g x (wipe σ vs) H' fun σ2 H2 => wipe σ2 vs = wipe σ vs ∧ tt σ2 H2 fun b H3 => if b = true then tk σ2 H3 fun y H4 => tv σ2 H4 fun z H5 => sPutN P w D y z H5 (Pv (i + 1)) else Pv (i + 1) H3) (hd : ∀ H, Pv n H → Qd H) :
    ∃ W : Nat → Nat → Hp → Prop, (∃ m, W 0 m (L2.upd H1 D (DctN P w D []))) ∧ ∀ i m H, W i m H →
      (J.stop i H ∧ Qd H) ∨ (J.go i H ∧ ∃ Nx : Hp → Prop, (∀ H', Nx H' → ∃ m', m' < m ∧ W (i + 1) m' H') ∧ ∀ x H', J.yld i H x H' → g x (wipe σ vs) H' fun σ2 H2 => wipe σ2 vs = wipe σ vs ∧ tt σ2 H2 fun b H3 =>
        if b = true then tk σ2 H3 fun y H4 => tv σ2 H4 fun z H5 => sPutN P w D y z H5 Nx else Nx H3) := by
  refine ⟨fun i m H => m = n - i ∧ i ≤ n ∧ Pv i H, ⟨n, by simp, Nat.zero_le _, h0⟩, fun i m H ⟨em, hi, p⟩ => ?_⟩
  by_cases lt : i < n
  · exact .inr ⟨wk.goes i H lt (hG i H hi p), Pv (i + 1), fun H' p' => ⟨n - (i + 1), by omega, rfl, lt, p'⟩, fun x H' y => hs i x H H' lt p (wk.yields i H x H' lt (hG i H hi p) y)⟩
  · obtain rfl : i = n := by omega
    exact .inl ⟨wk.stops H (hG _ H hi p), hd H p⟩
end
end CP
/-! the rules of CpPairK, CpDict, CpDictC with the program and the world named outright -/
namespace CP
open PySem PySem.Spec PyProof.Rows L2
section
variable {X : Cx} (P : Program) (w : World)
theorem cr_set0P (h1 : X.prog = P) (h2 : X.w = w) : CallR X (.type "set") (rSet0N P w) := by subst h1; subst h2; exact cr_set0N
theorem or_sinP (h1 : X.prog = P) (h2 : X.w = w) (hu : X.A.units + 64 < cLine) : OpR X (compareOp .In) (rSInN P w) := by subst h1; subst h2; exact or_sinN hu
theorem pe_saddP (h1 : X.prog = P) (h2 : X.w = w) {o e : Expr} {es : List Expr} {to : TE} {t : TA} {apos cpos : Pos} (hu : X.A.units + 64 < cLine) (ho : PE X o to) (ha : PA X (e :: es) t) (hbase : attributeBase o "add" X.env (eval o X.env) = eval o X.env := by rfl)
    (hfew : ((backTo cpos (starEach (e :: es) X.env)).all (fun x => !x.1) && (backToKw cpos (keywordEach [] X.env)).all (fun x => x.1.isSome) && decide ((e :: es).length + ([] : List Keyword).length + (if ([] : List Keyword).isEmpty then 0 else 1) < 30)) = true := by rfl)
    (hl : (apos.endLine == cpos.line) = true := by rfl) (hs : starEach (e :: es) X.env = (false, eval e X.env) :: starEach es X.env := by rfl) (hp : (backTo cpos (starEach es X.env)).any (·.1) = false := by rfl) :
    PE X (.Call (.Attribute o "add" apos) (e :: es) [] cpos) (tSAddN P w to t) := by subst h1; subst h2; exact pe_saddNN hu ho ha hbase hfew hl hs hp
theorem pe_getP (h1 : X.prog = P) (h2 : X.w = w) {o i : Expr} {td ty : TE} {pos : Pos} (hu : X.A.units + 64 < cLine) (ho : PE X o td) (hi : PE X i ty) (hs : NoSl i) : PE X (.Subscript o i pos) (tGetN P w td ty) := by subst h1; subst h2; exact pe_getN hu ho hi hs
theorem set_dictP (h1 : X.prog = P) (h2 : X.w = w) (hu : X.A.units + 64 < cLine) : PSet X (rPutN P w) := by subst h1; subst h2; exact set_dictN hu
theorem pe_dcP (h1 : X.prog = P) (h2 : X.w = w) {kx vx tg iter : Expr} {ifs : List Expr} {scope : Scope} {own : List (Str × Nat)} {pos : Pos} {wi : TI} {g : TG} {tt : TT} {tk tv : TE} (calm : X.calm = true) (once : X.N.Nodup) (room : X.A.units + 64 < cLine) (ri : PI X tg iter wi) (blk : BlkOk X.N X.env.scope scope own)
    (rg : ∀ s H C cl fp, PG (X.blk s H scope (compEnvC scope cl C X.env) fp) tg g) (rt : ∀ s H C cl fp, PTs (X.blk s H scope (compEnvC scope cl C X.env) fp) ifs tt)
    (rk : ∀ s H C cl fp, PE (X.blk s H scope (compEnvC scope cl C X.env) fp) kx tk) (rv : ∀ s H C cl fp, PE (X.blk s H scope (compEnvC scope cl C X.env) fp) vx tv) (plain : ∀ x, foldedSetIterable iter X.env x = pure x := by intro _; rfl) :
    PE X (.DictComp kx vx [⟨tg, iter, ifs, 0⟩] scope pos) (tDcN P w wi g tt tk tv (own.map (·.2))) := by subst h1; subst h2; exact pe_dcN calm once room ri blk rg rt rk rv plain
end
end CP
/-! Defs that show data (repr): the promise holds where no repr is running around the call. -/
namespace CP
open PySem PySem.Spec PyProof.Rows L2
structure FnG (P : Program) (w : World) (K : PySem.W.Frag) (mg : Str → Option Value) (base : Heap) (k : Nat) (f : Addr) (fd : FuncData) (ps : List Str) (sp : Sp) : Prop where
  len : ∀ vs H Q E, sp vs H Q E → vs.length = ps.length
  run : ∀ (A : Around) (outer : List Env) (s : Shared) (H : Hp) (args : Args) (us : List Value) (vs : List V) (Q : VK) (E : XK), Room k A → A.guards = some [] → Env0 P w K mg base A outer s H → BindsTo s fd args (ps.zip us) → Vals vs us → sp vs H Q E →
    codeAny (model P w) A (.call (.ref f) args) (CR CX0 outer P w H s Q E) s
section
variable {P : Program} {w : World} {K : PySem.W.Frag} {mg : Str → Option Value} {base : Heap}
theorem okG {x qual : Str} {st : Stmt} {f : Addr} {fd : FuncData} {N ps : List Str} {k : Nat} {sp : Sp} (F : Fun K x qual st f fd) (S : FnScope N ps (defScope st)) (len : ∀ vs H Q E, sp vs H Q E → vs.length = ps.length)
    (body : ∀ (cdv : Value) (A : Around) (outer : List Env) (s : Shared) (H : Hp) (vs : List V) (Q : VK) (E : XK), Room k (A.deeper (envOfC qual (defScope st) s.heap.objs.size f cdv)) → (A.deeper (envOfC qual (defScope st) s.heap.objs.size f cdv)).guards = some [] → sp vs H Q E →
      ∃ t, PSs (cxOf CX0 P w K mg base N qual (defScope st) f cdv A outer s H E).nox (defBody st) t ∧ t { nx := fun _ H' => Q .non H', rt := Q } (start N vs) H) : FnG P w K mg base (k + 1) f fd ps sp := by
  obtain ⟨oc, od, kV, doc, pm, an, cdv, ct, osl, rfl, lk, hcd⟩ := F.ex
  refine ⟨len, fun A outer s H args us vs Q E room gds env0 hb vals hsp => ?_⟩
  have up : ∀ b o, base.get? b = some o → s.heap.get? b = some o := fun b o e => (env0.bs b o e).1
  have KIn : K.In s.heap := env0.mod.kin.keeps up
  have kinds : ∀ y ∈ ps.zip us, (defScope st).names.lookup y.1 = some .local ∨ ((defScope st).names.lookup y.1 = some .cell ∧ ((cellsFrom (s.heap.objs.size + 1) (defScope st).names []).lookup y.1).isSome = true) := fun ⟨n, v⟩ hy =>
    (S.par n (List.of_mem_zip hy).1).elim .inl fun q => .inr ⟨q, PySem.W.cellsFrom_some _ _ _ (.inl q)⟩
  refine codeAny_call_function room.depth (KIn _ _ lk) rfl S.co S.gen rfl (PySem.W.codeRec_of KIn hcd) (hb _ _ _ _ (wpAny_newFunctionEnv_cells S.kind kinds fun env he s1 x => ?_))
  subst he
  refine ⟨(env0.mod.nolimit.keeps up).keeps x.toInCall.keep, codeAny_func ?_⟩
  obtain ⟨t, ht, hq⟩ := body cdv A outer s H vs Q E (room.deeper _) gds hsp
  have I : L2.Inv (cxOf CX0 P w K mg base N qual (defScope st) f cdv A outer s H E) [] (start N vs) H s1 := inv_start S room.hd env0 (len _ _ _ _ hsp) vals x
  refine wpAny_mono (ht.nox.run [] s1 (start N vs) H _ I hq) (fun fl s' hs => ?_) fun e s' hs => hs
  have done : ∀ {σ' : L2.St} {H' : Hp} {v : V} {u : Value}, L2.Inv (cxOf CX0 P w K mg base N qual (defScope st) f cdv A outer s H E) [] σ' H' s' → RelV v u → Q v H' → CE outer P w H s Q u s' := fun J rv q => ⟨_, _, J.os, J.bare, J.base, J.hok, rv, q⟩
  match fl, hs with
  | .ret u, ⟨v, σ', H', J, rv, q⟩ => exact done J rv q
  | .next, ⟨σ', H', J, q⟩ => exact done (v := V.non) (u := Value.none) J rfl q
  | .brk, ⟨_, _, _, q⟩ => exact q.elim
  | .cont, ⟨_, _, _, q⟩ => exact q.elim
end
section
variable {X : Cx} {x : Str} {p pos : Pos} {e : Expr} {es : List Expr} {t : TA} {k : Nat} {f : Addr} {fd : FuncData} {ps : List Str} {sp : Sp}
theorem pe_callG (F : FnG X.prog X.w X.K X.mg X.base k f fd ps sp) (hr : Room k X.A) (gds : X.A.guards = some []) (hg : Gl X x) (hm : X.mg x = some (.ref f)) (hk : PySem.W.keepIn X.K (.ref f) = true) (hb : Binds X.K fd ps []) (ha : PA X (e :: es) t)
    (hdb : (x == ("__debug__" : Str)) = false := by decide) (he : starEach (e :: es) X.env = (false, eval e X.env) :: starEach es X.env := by rfl) (hpl : (backTo pos (starEach es X.env)).any (·.1) = false := by rfl) : PE X (.Call (.Name x p) (e :: es) [] pos) (tCall sp [] E0 t) := by
  refine ⟨fun pins s σ H Q I h => wpAny_Call_Name_kw (ld_glob I hg hm ?_ hdb)⟩
  refine PySem.W.callWith_K (h₀ := X.base) I.ok.mod.kin hk (thn (ha.run pos pins s σ H _ I h) fun us s1 ⟨vs, H1, I1, r, q⟩ => ⟨I1.kIn, ?_⟩) he hpl
  have r2 : Vals (vs ++ []) (us ++ []) := r.append .nil
  have hl : (us ++ []).length = ps.length := by rw [← r2.length]; exact F.len _ _ _ _ q
  refine wpAny_call (codeAny_mono (F.run X.A X.stack s1 H1 ⟨us, []⟩ (us ++ []) (vs ++ []) Q E0 hr gds I1.env0 (hb s1 us I1.kIn hl) r2 q) fun res s' hq => ?_)
  match res, hq with
  | .error err, hq => exact (hq : False).elim
  | .ok (.ret u), hq => exact I1.after hq
  | .ok .next, hq => exact False.elim hq
  | .ok .brk, hq => exact False.elim hq
  | .ok .cont, hq => exact False.elim hq
/-- repr(x) of data that can be shown -/
def rReprD (K : PySem.W.Frag) : List V → Hp → VK → Prop := fun xs H Q => ∃ (a : Addr) (d : PyData), xs = [.ref a] ∧ Dp K H (.ref a) d ∧ d.showable = true ∧ d.hasDict = false ∧ d.depth ≤ 60 ∧ d.shown.length ≤ sizeLine ∧ Q (.str d.shown) H
theorem call_reprD (gds : X.A.guards = some []) (hu : X.A.units + 64 < cLine) : CallR X (.builtin "repr") (rReprD X.K) := by
  intro pins s σ H xs us Q I r h
  obtain ⟨a, d, rfl, hd, h1, h2, h3, h4, q⟩ := h
  rw [Vals.ref1 r]
  obtain ⟨as, rd⟩ := Dp.reads I d _ (Value.ref a) hd rfl
  exact repr_of_reads' rd h1 (fun z => by rw [h2] at z; cases z) gds (by omega) (fun _ _ z => z) (fun h' u tk hk => ⟨.str d.shown, H, I.kept (t' := tk) hk, ⟨_, rfl⟩, q⟩) h4
end
end CP
namespace CP
open PySem PySem.Spec PyProof.Rows L2
theorem callG {P : Program} {w : World} {K : PySem.W.Frag} {mg mb : Str → Option Value} {k : Nat} {fa a : Addr} {fd : FuncData} {x : Str} {sp : Sp} {s0 : Shared} {vs : List Value} {ns : List Int}
    (KX : K.In s0.heap) (n1 : s0.heap.Ns mainGlobals mg) (n2 : s0.heap.Ns builtinsNs mb) (n3 : ∀ x : Str, x ≠ "__name__" → mb x = bootBuiltins x) (lim : s0.heap.NoLimit) (gens : s0.gens = #[])
    (obj : s0.heap.get? a = some { cls := .type "list", data := .seq vs.toArray }) (hints : IntsAre vs ns) (few : ns.length ≤ sizeLine) (room : Room k callerA)
    (F : ∀ base : Heap, K.In base → base.Ns mainGlobals mg → FnG P w K mg base k fa fd [x] sp) (bind : ∀ (s : Shared) (u : Value), BindsTo s fd ⟨[u], []⟩ [(x, u)])
    (hsp : ∀ H : Hp, SqL K H a (ns.map V.int) → sp [.ref a] H (fun v _ => v = .bl true) fun _ _ _ => False) :
    codeAny (model P w) callerA (.call (.ref fa) ⟨[.ref a], []⟩) (fun r s' => r = .ok (.ret (.bool true)) ∧ OldK s0.heap s'.heap ∧ s'.os = s0.os ∧ AllBare s'.gens) s0 := by
  have rv := vals_ints hints
  have lenV := hints.length
  have core : ∀ H : Hp, (∀ b, H b = none ∨ ∃ ob xs, H b = some (.frz ob (.lst xs))) → SqL K H a (ns.map V.int) → HOk P w H s0.heap → (∀ b, H b ≠ none → b = a) → (H a ≠ none → K.lookup a = none) →
      codeAny (model P w) callerA (.call (.ref fa) ⟨[.ref a], []⟩) (fun r s' => r = .ok (.ret (.bool true)) ∧ OldK s0.heap s'.heap ∧ s'.os = s0.os ∧ AllBare s'.gens) s0 := by
    intro H only sq ok onlyA unk
    have noD : ∀ {b : Addr} {o : Obj} {es : Array DictEntry} {ep : Nat}, s0.heap.get? b = some o → o.data = .dict es ep → H b = none := fun {b o es ep} e d => by
      cases q : H b with
      | none => rfl
      | some u =>
        obtain rfl : b = a := onlyA b (by rw [q]; simp)
        rw [obj] at e; cases e; cases (show Data.seq vs.toArray _ = Data.dict es ep from d)
    have nsH : ∀ {b : Addr} {m : Str → Option Value}, s0.heap.Ns b m → (hidT s0.heap H).Ns b m := fun ⟨o, es, ep, e, d, r⟩ => ⟨o, es, ep, hidT_get e (noD e d), d, r⟩
    have kH : K.In (hidT s0.heap H) := fun b o e => hidT_get (KX b o e) (by
      cases q : H b with
      | none => rfl
      | some u =>
        obtain rfl : b = a := onlyA b (by rw [q]; simp)
        rw [unk (by rw [q]; simp)] at e; cases e)
    have md : Mod K mg (hidT s0.heap H) := ⟨kH, nsH n1, ⟨mb, nsH n2, n3⟩, let ⟨mc, h1, h2⟩ := lim; ⟨mc, nsH h1, h2⟩⟩
    have env0 : Env0 P w K mg (hidT s0.heap H) callerA [] s0 H := ⟨rfl, md, fun b o e => of_hidT e, Nat.le_of_eq (hidT_size _ _), trivial, fun b hb => absurd (show b ∈ ([] : List Addr) from hb) (by simp), ok, .of_eq gens⟩
    refine codeAny_mono ((F _ kH (nsH n1)).run callerA [] s0 H ⟨[.ref a], []⟩ [.ref a] [.ref a] _ _ room rfl env0 (bind s0 (.ref a)) (.cons rfl .nil) (hsp H sq)) fun r s' h => ?_
    match r, h with
    | .error e, h => exact (h : False).elim
    | .ok .next, h => exact False.elim h
    | .ok .brk, h => exact False.elim h
    | .ok .cont, h => exact False.elim h
    | .ok (.ret u), ⟨v, H', os, bare, un, ok', r', q⟩ =>
      obtain rfl : v = .bl true := q
      obtain rfl : u = Value.bool true := r'
      refine ⟨rfl, OldK.of_keep fun b o e => ?_, os, bare⟩
      rcases only b with q | ⟨ob, xs, q⟩
      · exact un.keep b o e q (fun z => absurd (show b ∈ ([] : List Addr) from z) (by simp)) (by simp)
      · obtain ⟨e1, _⟩ := ok b _ q
        obtain ⟨e2, _⟩ := ok' b _ (un.frzs b ob _ q)
        rw [e] at e1; cases e1; exact e2
  cases hk : K.lookup a with
  | some o =>
    have e := KX a o hk
    rw [obj] at e
    cases e
    exact core (fun _ => none) (fun _ => .inl rfl) (.inr ⟨_, vs.toArray, _, hk, rfl, rfl, rfl, by rw [List.size_toArray, lenV]; exact few, by simpa using rv⟩) (fun b u z => by cases (show (none : Option HO) = some u from z)) (fun b z => absurd rfl z) fun z => absurd rfl z
  | none =>
    refine core (fun b => if b = a then some (.frz { cls := .type "list", data := .seq vs.toArray } (.lst (ns.map V.int))) else none) (fun b => ?_) (.inl (.inr ⟨{ cls := .type "list", data := .seq vs.toArray }, if_pos rfl⟩)) (fun b u z => ?_) (fun b z => ?_) fun _ => hk
    all_goals by_cases hb : b = a
    · exact .inr ⟨_, _, if_pos hb⟩
    · exact .inl (if_neg hb)
    · have z' := (if_pos hb).symm.trans z
      cases z'; subst hb
      exact ⟨obj, by rw [List.length_map]; exact few, vs, _, rv, obj⟩
    · cases (if_neg hb).symm.trans z
    · exact hb
    · exact absurd (if_neg hb) z
theorem walkG {l : PySem.W.OpenLaw} {n k : Nat} {q : Program} {loose : List Str} {XP : (Str → Option Value) → Heap → Prop} {YP : World → Heap → Prop} {d : DefRec} {K : Params → PySem.W.Frag} {sp : PySem.W.Frag → Sp} {x : Str}
    (hn : l.most = some n) (hn2 : n ≤ sizeLine) (hdf : d.params.defaults = []) (room : Room k callerA) (hY : ∀ (w : World) (h : Heap), YP w h → (K w.params).In h)
    (F : ∀ (w : World) (mg : Str → Option Value) (fa : Addr) (h : Heap), (K w.params).In h → h.Ns mainGlobals mg → mg d.name = some (.ref fa) → ∃ fd : FuncData, (∀ (s : Shared) (u : Value), BindsTo s fd ⟨[u], []⟩ [(x, u)]) ∧
        ∀ base : Heap, (K w.params).In base → base.Ns mainGlobals mg → FnG l.prog w (K w.params) mg base k fa fd [x] (sp (K w.params)))
    (hsp : ∀ (K : PySem.W.Frag) (H : Hp) (a : Addr) (ns : List Int), ns.length ≤ n → SqL K H a (ns.map V.int) → sp K [.ref a] H (fun v _ => v = .bl true) fun _ _ _ => False) :
    PySem.W.WalkO q loose XP YP l.row.toRowW d [] (fun f vs => PySem.call f vs) := by
  refine Att.attach_call hn hdf fun w s0 s1 mg mb fa o pm cd doc a vs ns G Y ho hd hcd hmg hobj hints hlen hg => ?_
  have KX := hY w _ Y
  obtain ⟨fd, hb, hF⟩ := F w mg fa _ KX G.T.g hmg
  exact callG KX G.T.g G.T.b G.T.builtins G.T.nolimit hg hobj hints (Nat.le_trans hlen hn2) room hF hb fun H hS => hsp _ H a ns hlen hS
end CP
/-! Exceptions as values: made, kept, asked for their class, their fields read. -/
namespace CP
open PySem PySem.Spec PyProof.Rows L2
/-- an exception of a built-in class at a -/
def bxo (a : Addr) (T : String) : HO := .ext fun h => ∃ o, h.get? a = some o ∧ o.cls = .type T
theorem bxo_ok {P : Program} {w : World} {H : Hp} {h : Heap} {a : Addr} {T : String} {o : Obj} (e : h.get? a = some o) (c : o.cls = .type T) : ObjOk P w H h a (bxo a T) :=
  ⟨⟨o, e, c⟩, ⟨o, e⟩, fun _ _ ⟨o, q, r⟩ k => ⟨o, k o q, r⟩⟩
/-- what isinstance and the fields' reading want of the class -/
structure XCls (K : PySem.W.Frag) (C : Addr) : Prop where
  cl : (PySem.W.clsIn K C).isSome = true
  ga : PySem.W.findIn K (.ref C) "__getattribute__" = some (some (.builtin "BaseException.__getattribute__"))
  gg : PySem.W.findIn K (.ref C) "__getattr__" = some none
  sb : PySem.W.subIn K (.ref C) (.type "BaseException") = some true
  hd : PySem.W.hasDictIn K C = true
  ca : PySem.W.findIn K (.ref C) "__class__" = some (some (.builtin "object.__class__"))
  sg : PySem.W.specialIn K (.builtin "object.__class__") "__get__" = some (some (.builtin "getset_descriptor.__get__"))
  tk : PySem.W.takesIn K (.builtin "object.__class__") = some true
  mo : PySem.W.mroIn K C (.type "object") = some true
/-- an exception value: of an own class (with a field or without), or a ValueError -/
inductive TyE (K : PySem.W.Frag) (H : Hp) : V → Value → Prop where
  | plain {a C : Addr} (h : H a = some (exo a C none)) (T : XCls K C) : TyE K H (.ref a) (.ref C)
  | field {a C d : Addr} {fs : List (Str × V)} (h : H a = some (exo a C (some d))) (hd : H d = some (exd d fs)) (T : XCls K C) : TyE K H (.ref a) (.ref C)
  | blt {a : Addr} (h : H a = some (bxo a "ValueError")) : TyE K H (.ref a) (.type "ValueError")
section
variable {X : Cx} {pins : List (Addr × Obj)} {σ : L2.St} {H : Hp} {s : Shared}
theorem exd_get {P : Program} {w : World} {h : Heap} {dx : Addr} {fs : List (Str × V)} (ok : HOk P w H h) (he : H dx = some (exd dx fs)) : ∃ o, h.get? dx = some o := by
  obtain ⟨mA, ⟨o, _, _, e, _⟩, _⟩ := exd_at ok he
  exact ⟨o, e⟩
def rIsiE (K : PySem.W.Frag) : List V → Hp → VK → Prop := fun xs H Q => ∃ (x c : V) (t u : Value) (b : Bool), xs = [x, c] ∧ ClsV c u ∧ TyE K H x t ∧ PySem.W.kitOne K t u = some b ∧ Q (.bl b) H
theorem call_isiE : CallR X (.builtin "isinstance") (rIsiE X.K) := by
  intro pins s σ H xs us Q I r h
  obtain ⟨x, c, t, u, b, rfl, k, ty, e, q⟩ := h
  obtain ⟨u1, u2, rfl, r1, r2⟩ := vals2 r
  have e2 := k.eq r2
  subst e2
  cases ty with
  | @plain a C h T =>
    cases (show u1 = Value.ref a from r1)
    obtain ⟨t1, ho⟩ := exo_at I.hok h
    exact PySem.W.kia_one (PySem.W.kitx_exc (od := none) T.cl T.ga T.gg T.sb T.ca T.sg T.tk T.mo) I.kIn ⟨ho, rfl, rfl, trivial⟩ e (fun z => nomatch z) fun tk => ⟨.bl b, H, I.tok tk, rfl, q⟩
  | @field a C d fs h hd T =>
    cases (show u1 = Value.ref a from r1)
    obtain ⟨t1, ho⟩ := exo_at I.hok h
    obtain ⟨oD, hoD⟩ := exd_get I.hok hd
    exact PySem.W.kia_one (PySem.W.kitx_exc (od := some oD) T.cl T.ga T.gg T.sb T.ca T.sg T.tk T.mo) I.kIn ⟨ho, rfl, rfl, hoD⟩ e (fun z => nomatch z) fun tk => ⟨.bl b, H, I.tok tk, rfl, q⟩
  | @blt a h =>
    cases (show u1 = Value.ref a from r1)
    obtain ⟨o, ho, hc⟩ := (I.hok a _ h).1
    exact PySem.W.kia_one (PySem.W.kitx_bexc PySem.F.excAttr_ValueError PySem.F.lkClass_ValueError PySem.F.soClass_ValueError (by decide)) I.kIn ⟨o, ho, hc⟩ e (fun z => nomatch z) fun tk => ⟨.bl b, H, I.tok tk, rfl, q⟩
/-- e.f, e such a value -/
def tFldE (K : PySem.W.Frag) (f : Str) (te : TE) : TE := fun σ H Q => te σ H fun x H1 => ∃ (a C d : Addr) (fs : List (Str × V)) (v : V), x = .ref a ∧ H1 a = some (exo a C (some d)) ∧ H1 d = some (exd d fs) ∧ XCls K C ∧ PySem.W.findIn K (.ref C) f = some none ∧ fs.lookup f = some v ∧ Q v H1
theorem pe_fldE {e : Expr} {te : TE} {pos : Pos} {n : Str} (he : PE X e te) (hb : attributeBase e n X.env (eval e X.env) = eval e X.env := by rfl) : PE X (.Attribute e n pos) (tFldE X.K n te) := by
  refine ⟨fun pins s σ H Q I h => attr_of hb (thn (he.run pins s σ H _ I h) fun u s1 ⟨x, H1, I1, rx, a, C, d, fs, v, ex, ha, hd, T, no, l, q⟩ => ?_)⟩
  subst ex
  obtain rfl : u = Value.ref a := rx
  obtain ⟨t1, ho⟩ := exo_at I1.hok ha
  obtain ⟨mA, hns, hr⟩ := exd_at I1.hok hd
  obtain ⟨od, ho2, hl⟩ := lookIn_ns hns
  obtain ⟨u, hu, ru⟩ := RelO.some_of (v := v) (o := mA n) (by rw [← l]; exact hr n)
  exact HandSPX.exc_get I1.kIn ⟨ho, rfl, rfl, ho2⟩ T.ga T.gg T.sb (PySem.W.findObj_own T.hd no rfl (by rw [hl, hu])) (handed_of ru) ⟨v, H1, I1.tok _, ru, q⟩
/-- a new object at an address that the heap has not -/
theorem laid_new {h' : Heap} {a : Addr} {o : HO} {t' : Nat} (I : L2.Inv X pins σ H s) (k : ∀ b u, s.heap.get? b = some u → h'.get? b = some u) (new : s.heap.get? a = none) (hn : H a = none) (ok : ObjOk X.prog X.w (L2.upd H a o) h' a o) : L2.Inv X pins σ (L2.upd H a o) { s with heap := h', toks := t' } := by
  refine I.un ⟨fun b u q _ _ _ => k b u q, fun b u q _ _ _ => ⟨u.slots, k b u q⟩, fun b u q n _ => ?_, fun b u q _ => ⟨u, k b u q⟩, fun b xs q => ?_, fun b u xs q => ?_, fun b ps q => ⟨#[], ?_⟩⟩ fun b u e => ?_
  · rw [upd_ne (fun z => by rw [z, new] at q; cases q)]; exact n
  · rw [upd_ne (ne_of_none q hn)]; exact q
  · rw [upd_ne (ne_of_none q hn)]; exact q
  · rw [upd_ne (ne_of_none q hn), q]; simp
  · by_cases hb : b = a
    · subst hb; rw [upd_same] at e; cases e; exact ok
    · rw [upd_ne hb] at e
      exact (I.hok b u e).stay (fun c v _ q => k c v q) (fun c q => by rw [upd_ne (ne_of_none q hn)]; exact q) fun c xs q => by rw [upd_ne (ne_of_none q hn)]; exact q
/-- ValueError('x') -/
theorem pe_bexc {m : Str} {j : Nat} {p p2 pos : Pos} (hg : Gl X "ValueError") (hm : X.mg "ValueError" = none) : PE X (.Call (.Name "ValueError" p) [.Constant (.str m) j p2] [] pos) (fun _ H Q => ∀ a, H a = none → Q (.ref a) (L2.upd H a (bxo a "ValueError"))) := by
  refine ⟨fun pins s σ H Q I h => wpAny_Call_Name_kw (ld_blt I hg hm boot_ValueError ?_ (by decide) (by decide))⟩
  refine PyProof.Rows.callWith_type1 (thn ((pa_cons (pe_str (x := m) (j := j) (pos := p2)) pa_nil).run pos pins s σ H (fun vs H1 => H1 = H ∧ vs.length = 1) I ⟨rfl, rfl⟩) fun us s1 ⟨vs, H1, I1, r1, eH, l1⟩ => ?_) rfl rfl
  subst eH
  obtain ⟨hp1, g1, d1, tk1, os1⟩ := s1
  refine wpAny_call_exc exb_ValueError.call (fun h' a mk => ?_) (by rw [← r1.length, l1, sizeLine_eq]; omega)
  have hn := I1.hok.gone mk.new
  obtain ⟨t, ht, _⟩ := mk.there
  exact ⟨.ref a, _, laid_new (t' := tk1) I1 mk.keeps mk.new hn (bxo_ok ht rfl), rfl, h a hn⟩
/-- C(), an own class without own __init__ -/
theorem pe_exc0 {C : Addr} {bmB : List Value} {B newId initId : String} {x : Str} {p pos : Pos} (F : ExcBaseFacts B newId initId bmB) (q : PySem.W.excIn X.K C bmB newId = true) (gC : X.mg x = some (.ref C)) (kC : PySem.W.keepIn X.K (.ref C) = true) (hg : Gl X x)
    (hdb : (x == ("__debug__" : Str)) = false := by decide) : PE X (.Call (.Name x p) [] [] pos) (fun _ H Q => ∀ a, H a = none → Q (.ref a) (L2.upd H a (exo a C none))) := by
  refine ⟨fun pins s σ H Q I h => wpAny_Call_Name_kw (ld_glob I hg gC (PySem.W.callWith_K0 I.kIn kC ?_) hdb)⟩
  obtain ⟨bm, N, nm, qn, bs, hdct, sn, sub, ab, col, dd, k0, k1, k2, k3, k5, mN, hC, hN, hni, T⟩ := exc_obj I.kIn q
  refine wpAny_call_exc_subT F T hC hN hni (fun h' a mk => ?_) (Nat.zero_le _)
  have hn := I.hok.gone mk.new
  obtain ⟨t, ht, _⟩ := mk.there
  exact ⟨.ref a, _, laid_new (t' := s.toks) I mk.keeps mk.new hn (exo_ok ht), rfl, h a hn⟩
/-- C(e), C's own __init__ keeping sp, as a value -/
def tMkV (C : Addr) (sp : Sp) (ta : TA) : TE := fun σ H Q => ta σ H fun vs H1 => vs.length ≤ 1000 ∧ ∀ a, H1 a = none → sp (.ref a :: vs) (L2.upd H1 a (exo a C none)) (fun v H2 => v = .non ∧ Q (.ref a) H2) E0
theorem pe_excI {e : Expr} {es : List Expr} {ta : TA} {x : Str} {C fI : Addr} {k : Nat} {fd : FuncData} {ps : List Str} {sp : Sp} {p pos : Pos} (T : OexC X.K C) (iC : PySem.W.findIn X.K (.ref C) "__init__" = some (some (.ref fI))) (tI : PySem.W.typeIn X.K (.ref fI) = some (.type "function"))
    (F1 : FnOk X.prog X.w X.K X.mg X.base CX0 k fI fd ps sp) (hr : Room (k + 1) X.A) (hb : Binds X.K fd ps []) (hg : Gl X x) (hm : X.mg x = some (.ref C)) (ha : PA X (e :: es) ta)
    (hdb : (x == ("__debug__" : Str)) = false := by decide) (he : starEach (e :: es) X.env = (false, eval e X.env) :: starEach es X.env := by rfl) (hpl : (backTo pos (starEach es X.env)).any (·.1) = false := by rfl) : PE X (.Call (.Name x p) (e :: es) [] pos) (tMkV C sp ta) := by
  obtain ⟨nm, q, N, bs, bm, sn, sub, ab, col, dd, k0, k1, k2, k3, k5, hC, hbm⟩ := T.cls
  refine ⟨fun pins s σ H Q I h => wpAny_Call_Name_kw (ld_glob I hg hm ?_ hdb)⟩
  refine PySem.W.callWith_K (h₀ := X.base) I.ok.mod.kin T.kC (thn (ha.run pos pins s σ H _ I h) fun us s1 ⟨vs, H1, I1, r1, hz, q1⟩ => ⟨I1.kIn, ?_⟩) he hpl
  show wpAny _ _ (call (.ref C) us) _ _ _
  obtain ⟨hp, g, dr, tk, os⟩ := s1
  have below : hp.objs.size ≤ hp.objs.size + 1 := Nat.le_succ _
  have fresh : H1 (hp.objs.size + 1) = none := I1.hok.fresh below
  have want := q1 (hp.objs.size + 1) fresh
  generalize hh2 : (hp.push (PySem.W.kdv_tup us)).push (PySem.HandSPX.excO C hp.objs.size) = hp2
  have keep : ∀ b o, hp.get? b = some o → hp2.get? b = some o := fun b o e => by rw [← hh2]; exact Heap.get?_push_of_some _ (Heap.get?_push_of_some _ e)
  have got : hp2.get? (hp.objs.size + 1) = some (PySem.HandSPX.excO C hp.objs.size) := by rw [← hh2]; heap_get
  have I2 : L2.Inv X pins σ (L2.upd H1 (hp.objs.size + 1) (exo (hp.objs.size + 1) C none)) ⟨hp2, g, dr, tk, os⟩ := I1.laid (t' := tk) (h' := hp2) keep below (exo_ok got)
  have r2 : Vals (V.ref (hp.objs.size + 1) :: vs) (Value.ref (hp.objs.size + 1) :: us) := .cons rfl r1
  have hl : (Value.ref (hp.objs.size + 1) :: us ++ []).length = ps.length := by
    rw [List.append_nil, ← r2.length]; exact F1.len _ _ _ _ want
  have few : us.length ≤ sizeLine := by rw [← Paired.length r1, sizeLine_eq]; omega
  have bnd := hb ⟨hp2, g, dr, tk, os⟩ (Value.ref (hp.objs.size + 1) :: us) I2.kIn hl
  rw [List.append_nil] at bnd
  refine wpAny_call (PySem.HandSPX.call_own F.excBase_ValueError (fun Y => PySem.HandSPX.refsVE_contains Y bm hbm) (I1.kIn _ _ hC) (PySem.W.looks_findIn I1.kIn iC) (fun self => PySem.W.bind_fn I1.kIn self tI) few ?_)
  rw [hh2]
  refine codeAny_mono (F1.run _ X.stack _ _ ⟨Value.ref (hp.objs.size + 1) :: us, []⟩ (Value.ref (hp.objs.size + 1) :: us) _ _ E0 (hr.make C us []) (I2.env0.make C us []) bnd r2 want) fun r s' hq => ?_
  match r, hq with
  | .error er, hq => exact (hq : False).elim
  | .ok .next, hq => exact False.elim hq
  | .ok .brk, hq => exact False.elim hq
  | .ok .cont, hq => exact False.elim hq
  | .ok (.ret u), ⟨v, H2, os2, bare2, un2, hok2, rv, ev, q2⟩ =>
    subst ev
    exact ⟨rv, .ref (hp.objs.size + 1), H2, I2.call' (ch := []) os2 un2 hok2 bare2 (fun b z => absurd z (by simp)), rfl, q2⟩
end
end CP
/-! sets of tuples of texts: set(), add, in -/
namespace CP
open PySem PySem.Spec PyProof.Rows L2
/-- at b a tuple of the texts k -/
def TkH (H : Hp) (b : Addr) (k : List Str) : Prop := H b = some (.tup (k.map V.str))
theorem TkH.same {H H' : Hp} {b : Addr} {k : List Str} (h : TkH H b k) (s : Same H H') : TkH H' b k := s _ _ h
theorem TkH.upd {H : Hp} {a b : Addr} {k : List Str} {o o' : HO} (h : TkH H b k) (ha : H a = some o) (n : ∀ xs, o ≠ .tup xs) : TkH (L2.upd H a o') b k := by
  unfold TkH; rw [upd_ne (fun q => by have h' : H b = _ := h; rw [q, ha] at h'; exact n _ (Option.some.inj h'))]; exact h
section
variable {X : Cx} {pins : List (Addr × Obj)} {σ : L2.St} {H : Hp} {s : Shared}
theorem tk_is {b : Addr} {k : List Str} (I : L2.Inv X pins σ H s) (h : TkH H b k) : TxtAt X.prog X.w s.heap k b := txt_at I (SqT.of h)
/-- the set at a, but for the keys' own tuples -/
def SetInE (P : Program) (w : World) (a : Addr) (L : List (Addr × List Str)) (h : Heap) : Prop :=
  ∃ es ep t, (∃ o, h.get? a = some o ∧ o.ExactSet ∧ o.data = .set es ep t) ∧ es.toList = rowsK (txtK P w) L ∧ TabG t (hsK (txtK P w) L) ∧ (L.map (·.2)).Nodup ∧ L.length * 5 < t.mask * 3 ∧ L.length < 250
def SetNE (P : Program) (w : World) (a : Addr) (L : List (Addr × List Str)) : HO := .ext (SetInE P w a L)
theorem setNE_ok {P : Program} {w : World} {H : Hp} {h : Heap} {a : Addr} {L : List (Addr × List Str)} (R : SetInE P w a L h) : ObjOk P w H h a (SetNE P w a L) := by
  have ⟨es, ep, t, ⟨o, ho, _⟩, _⟩ := R
  exact ⟨R, ⟨o, ho⟩, fun h1 h2 ⟨es', ep', t', ⟨o', ho', r'⟩, q'⟩ k => ⟨es', ep', t', ⟨o', k o' ho', r'⟩, q'⟩⟩
theorem SK.isInE {P : Program} {w : World} {h : Heap} {a : Addr} {L : List (Addr × List Str)} {es : Array (Int × Value)} {ep : Nat} {t : SetTable} (R : SK (txtK P w) h a L es ep t) : SetInE P w a L h := ⟨es, ep, t, R.obj, R.row, R.tab, R.nod, R.roo, R.few⟩
theorem setNE_get {a : Addr} {L : List (Addr × List Str)} (I : L2.Inv X pins σ H s) (ha : H a = some (SetNE X.prog X.w a L)) (hk : ∀ p ∈ L, TkH H p.1 p.2) : ∃ es ep t, SK (txtK X.prog X.w) s.heap a L es ep t := by
  obtain ⟨es, ep, t, h1, h2, h3, h4, h5, h6⟩ := (I.hok a _ ha).1
  exact ⟨es, ep, t, h1, h2, h3, h4, fun p hp => tk_is I (hk p hp), h5, h6⟩
/-- set() -/
def rSet0E (P : Program) (w : World) : List V → Hp → VK → Prop := fun xs H Q => xs = [] ∧ ∀ p, H p = none → Q (.ref p) (L2.upd H p (SetNE P w p []))
theorem cr_set0E0 : CallR X (.type "set") (rSet0E X.prog X.w) := by
  intro pins s σ H xs us Q I r h
  obtain ⟨rfl, q⟩ := h
  cases r
  refine setR_new fun _ => ?_
  have new := SK.new (F := txtK X.prog X.w) (h := s.heap.push (newSet X.w)) (a := s.heap.objs.size) (b := !X.w.params.followText "set-order") (Heap.get?_push_size _ rfl)
  exact ⟨.ref _, L2.upd H s.heap.objs.size (SetNE X.prog X.w s.heap.objs.size []), I.laid (t' := s.toks) (fun b u e => Heap.get?_push_of_some _ e) (Nat.le_refl _) (setNE_ok new.isInE), rfl, q _ (I.hok.fresh (Nat.le_refl _))⟩
/-- seen.add(pair) -/
def rSAddE (P : Program) (w : World) : V → List V → Hp → VK → Prop := fun x xs H Q => ∃ (a b : Addr) (k : List Str) (L : List (Addr × List Str)), x = V.ref a ∧ xs = [.ref b] ∧ H a = some (SetNE P w a L) ∧ (∀ p ∈ L, TkH H p.1 p.2) ∧ TkH H b k ∧ L.length + 1 < 250 ∧
  ∀ L', (k ∈ L.map (·.2) → L' = L) → (k ∉ L.map (·.2) → L'.Perm ((b, k) :: L)) → Q .non (L2.upd H a (SetNE P w a L'))
theorem mt_saddE (hu : X.A.units + 64 < cLine) : MtR X "set.add" (rSAddE X.prog X.w) := by
  intro pins s σ H x xs v us Q I rx rxs h
  obtain ⟨a, b, k, L, rfl, rfl, ha, hk, hb, few, q⟩ := h
  cases rx
  rw [Vals.ref1 rxs]
  obtain ⟨es, ep, t, R⟩ := setNE_get I ha hk
  obtain ⟨o, ho, hex, hd⟩ := R.obj
  have ty : s.TypeIs (.ref a) "set" := ⟨o, ho, hex.1⟩
  refine wpAny_call_entry PySem.F.slot_set_add ty PySem.F.entry_set_add ?_ (PySem.F.args_set_add_2 _ _)
  unfold Builtin.«set.add» Builtin.Frozenset.oneOther
  simp only [List.isEmpty_nil, bind_assoc]
  unfold Builtin.Frozenset.addrOf setAdd
  refine wpAny_bind (wpAny_pure ?_)
  try dsimp only
  refine wpAny_bind (wpAny_pure ?_)
  try dsimp only
  refine wpAny_bind (wpAny_holding (wpAny_bind ((txtK X.prog X.w).pyh (by simp; omega) (tk_is I hb) fun tn => ?_)))
  refine put_in (s := { s with toks := s.toks + tn }) R (show (txtK X.prog X.w).At s.heap k b from tk_is I hb) (by simp; omega) few fun c h' L' es' ep' t' sb R' c1 c2 => ?_
  show wpAny _ _ (ret Value.none) _ _ _
  obtain ⟨o', ho', _⟩ := R'.obj
  exact wpAny_pure ⟨_, rfl, .non, L2.upd H a (SetNE X.prog X.w a L'), I.write (e := a) (t' := s.toks + tn) (by rw [ha]; trivial) (.inl rfl) (fun b u hb hu => (sb.2 b hb).trans hu) ⟨o', ho'⟩ (setNE_ok R'.isInE), rfl, q L' c1 c2⟩
/-- pair in seen -/
def rSInSE (P : Program) (w : World) : V → V → Hp → VK → Prop := fun x y H Q => ∃ (b a : Addr) (k : List Str) (L : List (Addr × List Str)), x = .ref b ∧ y = V.ref a ∧ H a = some (SetNE P w a L) ∧ (∀ p ∈ L, TkH H p.1 p.2) ∧ TkH H b k ∧ Q (.bl (decide (k ∈ L.map (·.2)))) H
theorem or_sinE0 (hu : X.A.units + 64 < cLine) : OpR X (compareOp .In) (rSInSE X.prog X.w) := by
  intro pins s σ H x y v u Q I rx ry h
  obtain ⟨b, a, k, L, rfl, rfl, ha, hk, hb, q⟩ := h
  cases rx
  cases ry
  obtain ⟨es, ep, t, R⟩ := setNE_get I ha hk
  obtain ⟨o, ho, hex, hd⟩ := R.obj
  have ty : s.TypeIs (.ref a) "set" := ⟨o, ho, hex.1⟩
  show wpAny _ _ (do return Value.bool (← contains (.ref a) (.ref b))) _ _ s
  refine wpAny_bind ?_
  unfold contains
  try with_reducible refine wpAny_holding ?_
  refine wpAny_bind (wpAny_specialOf ty PySem.F.slot_set_contains.lookup ?_)
  rw [if_neg (by rw [beq_builtin_none]; exact Bool.false_ne_true)]
  refine wpAny_bind (wpAny_callSpecialUnlessNone?_slot (name := Str.ofString "__contains__") ty PySem.F.slot_set_contains (wpAny_call_entry PySem.F.slot_set_contains ty PySem.entry_set_contains ?_ (PySem.F.args_set_contains_2 _ _)))
  unfold Builtin.«frozenset.__contains__» Builtin.Frozenset.oneOther
  simp only [List.isEmpty_nil, bind_assoc]
  unfold Builtin.Frozenset.addrOf Builtin.Frozenset.withSetAsKey setContains
  refine wpAny_bind (wpAny_pure ?_)
  try dsimp only
  refine wpAny_bind (wpAny_pure ?_)
  try dsimp only
  refine wpAny_bind (wpAny_tryCatch (wpAny_holding (wpAny_bind ((txtK X.prog X.w).pyh (by simp; omega) (tk_is I hb) fun tn => ?_))))
  refine wpAny_bind (find_in (s := { s with toks := s.toks + tn }) R (show (txtK X.prog X.w).At s.heap k b from tk_is I hb) (by simp; omega) fun r hr => wpAny_pure ?_)
  show wpAny _ _ (ret (Value.bool r.isSome)) _ _ _
  have hr2 : r.isSome = decide (k ∈ L.map (·.2)) := hr.trans (decide_eq_decide.mpr Iff.rfl)
  rw [hr2]
  exact wpAny_pure ⟨_, rfl, wpAny_truthy_bool (wpAny_pure ⟨.bl _, H, I.tok _, rfl, q⟩)⟩
end
end CP
namespace CP
open PySem PySem.Spec PyProof.Rows L2
section
variable {X : Cx} {o e : Expr} {es : List Expr} {to : TE} {t : TA} {apos cpos : Pos}
def tSAddE (P : Program) (w : World) (to : TE) (t : TA) : TE := fun σ H Q => to σ H fun x H1 => (∃ a L, x = V.ref a ∧ H1 a = some (SetNE P w a L)) ∧ t σ H1 fun xs H2 => rSAddE P w x xs H2 Q
/-- seen.add(pair), as it is written -/
theorem pe_saddE0 (hu : X.A.units + 64 < cLine) (ho : PE X o to) (ha : PA X (e :: es) t) (hbase : attributeBase o "add" X.env (eval o X.env) = eval o X.env := by rfl)
    (hfew : ((backTo cpos (starEach (e :: es) X.env)).all (fun x => !x.1) && (backToKw cpos (keywordEach [] X.env)).all (fun x => x.1.isSome) && decide ((e :: es).length + ([] : List Keyword).length + (if ([] : List Keyword).isEmpty then 0 else 1) < 30)) = true := by rfl)
    (hline : (apos.endLine == cpos.line) = true := by rfl) (hs : starEach (e :: es) X.env = (false, eval e X.env) :: starEach es X.env := by rfl) (hplain : (backTo cpos (starEach es X.env)).any (·.1) = false := by rfl) :
    PE X (.Call (.Attribute o "add" apos) (e :: es) [] cpos) (tSAddE X.prog X.w to t) := by
  refine ⟨fun pins s σ H Q I h => wpAny_Call_method_late hbase hfew hline rfl (thn (ho.run pins s σ H _ I h) fun v s1 ⟨x, H1, I1, r1, ⟨a, L, ex, hS⟩, q1⟩ => ?_)⟩
  subst ex
  cases r1
  obtain ⟨es', ep, tb, ⟨ob, h1, h2, h3⟩, _⟩ := (I1.hok a _ hS).1
  have nd : ∀ b, Value.ref a = .ref b → ∃ o', s1.heap.get? b = some o' ∧ o'.dict = none := fun b z => by cases z; exact ⟨ob, h1, h2.2.1⟩
  refine ⟨"set", "set.add", F.plainAttrs_set, F.slot_set_add, F.type_set_add, ⟨ob, h1, h2.1⟩, nd, ?_⟩
  have hA := ha.run cpos pins s1 σ H1 _ I1 q1
  rw [hs] at hA ⊢
  refine Calls.callWith_builtin (by show (false || (backTo cpos (starEach es X.env)).any (·.1)) = false; rw [hplain]; rfl) (Calls.evalArgs_plain (thn hA fun us s2 ⟨vs, H2, I2, r2, q2⟩ => ?_))
  exact mt_saddE hu pins s2 σ H2 (.ref a) vs (.ref a) us Q I2 rfl r2 q2
end
end CP
namespace CP
open PySem PySem.Spec PyProof.Rows L2
section
variable {X : Cx} (P : Program) (w : World)
theorem cr_set0E (h1 : X.prog = P) (h2 : X.w = w) : CallR X (.type "set") (rSet0E P w) := by subst h1; subst h2; exact cr_set0E0
theorem or_sinE (h1 : X.prog = P) (h2 : X.w = w) (hu : X.A.units + 64 < cLine) : OpR X (compareOp .In) (rSInSE P w) := by subst h1; subst h2; exact or_sinE0 hu
theorem pe_saddE (h1 : X.prog = P) (h2 : X.w = w) {o e : Expr} {es : List Expr} {to : TE} {t : TA} {apos cpos : Pos} (hu : X.A.units + 64 < cLine) (ho : PE X o to) (ha : PA X (e :: es) t) (hbase : attributeBase o "add" X.env (eval o X.env) = eval o X.env := by rfl)
    (hfew : ((backTo cpos (starEach (e :: es) X.env)).all (fun x => !x.1) && (backToKw cpos (keywordEach [] X.env)).all (fun x => x.1.isSome) && decide ((e :: es).length + ([] : List Keyword).length + (if ([] : List Keyword).isEmpty then 0 else 1) < 30)) = true := by rfl)
    (hl : (apos.endLine == cpos.line) = true := by rfl) (hs : starEach (e :: es) X.env = (false, eval e X.env) :: starEach es X.env := by rfl) (hp : (backTo cpos (starEach es X.env)).any (·.1) = false := by rfl) :
    PE X (.Call (.Attribute o "add" apos) (e :: es) [] cpos) (tSAddE P w to t) := by subst h1; subst h2; exact pe_saddE0 hu ho ha hbase hfew hl hs hp
end
end CP
/-! x != y of two instances of one class that has its own __eq__ and no __ne__ -/
namespace CP
open PySem PySem.Spec PyProof.Rows PySem.SeqAt L2
section
variable {M : Model} {prog : Program} {w : World} {A : Around} {E : Value → Shared → Prop} {s : Shared} {K : PySem.W.Frag} {x C : Addr} {ox : Obj} {od : Option Obj}
theorem ifBound_objNe {args : List Value} {Q : Option Value → Shared → Prop} (X : K.In s.heap) (I : PySem.W.InstAt s.heap x ox C od) (hs : PySem.W.findIn K (.ref C) "__ne__" = some (some (.builtin "object.__ne__")))
    (h : wpAny M A (call (.builtin "object.__ne__") (.ref x :: args)) (fun v => Q (some v)) E s) : wpAny M A (callSpecialIfBound? (.ref x) "__ne__" args) Q E s := by
  simp only [callSpecialIfBound?, bindSpecialIfBound?]
  refine wpAny_holding (wpAny_bind (wpAny_bind (wpAny_bind (I.type.here ((PySem.W.looks_findIn X hs).here ?_)))))
  refine wpAny_bind (wpAny_askSetting (wpAny_ite ?_))
  have fin : wpAny M A (call (.builtin "object.__ne__") ([.ref x] ++ args) >>= fun v => pure (some v)) Q E s := wpAny_bind (wpAny_mono h (fun v s' h' => wpAny_pure h') fun _ _ h' => h')
  split
  · exact wpAny_bind (wpAny_of_eq (F.cmp_object.ne.bind _) (wpAny_pure (by exact fin)))
  · exact wpAny_tryCatch (wpAny_bind (wpAny_of_eq (F.cmp_object.ne.bind _) (wpAny_pure (by exact fin))))
theorem objNe_body {y f : Addr} (hu : A.units < cLine) (X : K.In s.heap) (I : PySem.W.InstAt s.heap x ox C od) (he : PySem.W.findIn K (.ref C) "__eq__" = some (some (.ref f))) (hf : PySem.W.isFn K (.ref f) = true) {Q : Fin → Shared → Prop}
    (hcall : wpAny M A (call (.ref f) [.ref x, .ref y]) (fun v s' => ∃ b, v = .bool b ∧ Q (.done (.ret (.bool (!b)))) s') E s) : wpAny M A (Builtin.«object.__ne__» ⟨[.ref x, .ref y], []⟩) Q E s := by
  unfold Builtin.«object.__ne__»
  repeat (first
    | with_reducible refine wpAny_cRoomFor hu ?_
    | (refine wpAny_bind (m := callSpecialIfBound? (.ref x) (Str.ofString "__eq__") [.ref y])
        (PySem.W.ifBound_K X I he hf (wpAny_mono hcall (fun r s' hr => by
          obtain ⟨b, rfl, hq⟩ := hr
          repeat (first | exact hq | exact wpAny_pure hq | exact wpAny_truthy_bool hq | (refine wpAny_bind (m := truthy (.bool _)) (wpAny_truthy_bool ?_)) | wp_step)) fun _ _ e => e)))
    | wp_step)
end
section
variable {X : Cx} {C f : Addr} {fd : FuncData} {ps : List Str} {n : Nat} {sp : Sp}
def rNeI (C : Addr) (sp : Sp) : R2 := fun x y H Q => ∃ a b dx dy fs gs, x = .ref a ∧ y = .ref b ∧ H a = some (.ins C dx fs) ∧ H b = some (.ins C dy gs) ∧ sp [.ref a, .ref b] H (fun v H' => ∃ r, v = .bl r ∧ Q (.bl (!r)) H') E0
theorem op_neI (FE : FnOk X.prog X.w X.K X.mg X.base CX0 n f fd ps sp) (hr : Room (n + 1) X.A) (he : PySem.W.findIn X.K (.ref C) "__eq__" = some (some (.ref f))) (hf : PySem.W.isFn X.K (.ref f) = true) (hn : PySem.W.findIn X.K (.ref C) "__ne__" = some (some (.builtin "object.__ne__")))
    (hb : Binds X.K fd ps []) (hm : PySem.W.mroIn X.K C (.type "object") = some true) : OpR X (compareOp .NotEq) (rNeI C sp) := by
  intro pins s σ H x y v u Q I rx ry h
  obtain ⟨a, b, dx, dy, fs, gs, rfl, rfl, ha, hb', hsp⟩ := h
  cases rx
  cases ry
  obtain ⟨mA, J, _⟩ := ins_get I.hok ha
  obtain ⟨mB, J', _⟩ := ins_get I.hok hb'
  obtain ⟨od, J, _⟩ := J.look
  obtain ⟨od', J', _⟩ := J'.look
  have hu : X.A.units + 1 < cLine := hr.in1.units0
  have hl := FE.len _ _ _ _ hsp
  have r2 : Vals [V.ref a, V.ref b] [Value.ref a, Value.ref b] := .cons rfl (.cons rfl .nil)
  have core : wpAny (model X.prog X.w) X.A.in1 (call (.ref f) [.ref a, .ref b]) (fun v s' => ∃ r, v = .bool r ∧ EP X pins σ Q (.bool (!r)) s') X.xe s := by
    refine wpAny_call (codeAny_mono (FE.run X.A.in1 X.stack s H ⟨[.ref a, .ref b], []⟩ [.ref a, .ref b] [.ref a, .ref b] _ E0 hr.in1 I.env0.in1 (by
      have := hb s [.ref a, .ref b] I.kIn (by simpa using hl)
      simpa using this) r2 hsp) fun r s' hq => ?_)
    cases r with
    | error e => exact (hq : False).elim
    | ok fl =>
      cases fl with
      | ret w =>
        obtain ⟨z, H', I', rz, r, ez, q⟩ := I.after hq
        subst ez
        cases rz
        exact ⟨r, rfl, .bl (!r), H', I', rfl, q⟩
      | next => exact False.elim hq
      | brk => exact False.elim hq
      | cont => exact False.elim hq
  show wpAny _ _ (richCompare .NotEq (.ref a) (.ref b)) _ _ s
  unfold richCompare
  simp only [oneThing_ref]
  refine wpAny_holding ?_
  refine wpAny_bind (wpAny_cRoomFor (Nat.lt_of_succ_lt hu) ?_)
  rw [cmpInfo_NotEq]
  dsimp only
  refine wpAny_bind (J.type.here ?_)
  refine wpAny_bind (J'.type.here ?_)
  rw [show (Value.ref C != Value.ref C) = false from by simp]
  simp only [Bool.false_eq_true, if_false]
  refine wpAny_bind (wpAny_pure ?_)
  simp only [Bool.false_eq_true, if_false]
  refine wpAny_bind ?_
  simp only [tryCompare]
  refine wpAny_bind (ifBound_objNe I.kIn J hn (wpAny_call (codeAny_call_builtin F.cmp_object.ne.plain F.cmpEntry_ne (PySem.W.check_slot F.cmpKind_ne F.cmpSplit_ne (J.type.andThen (PySem.W.looks_mroIn I.kIn hm)) (F.cmpArgs_ne _ _)
    (objNe_body (A := X.A.in1) hu I.kIn J he hf (wpAny_mono core (fun v s' hv => ?_) fun _ _ e => e))))))
  obtain ⟨r, rfl, hq⟩ := hv
  first | exact ⟨r, rfl, wpAny_pure (wpAny_pure hq)⟩ | exact ⟨r, rfl, wpAny_pure hq⟩ | exact ⟨r, rfl, hq⟩
end
end CP
/-! sorted(t), t a tuple: what is collected first, then as for a list -/
namespace CP
open PySem PySem.W PyProof.Rows L2
section
variable {prog : Program} {w : World} {A : Around} {E : Value → Shared → Prop} {s : Shared}
abbrev lst0 : Obj := seqObj "list" #[] 0
theorem gather_tup {t : Addr} {us : List Value} {R : List Value → Shared → Prop} (ht : s.heap.IsTuple t us.toArray) (few : us.length ≤ sizeLine)
    (k : R us { s with heap := (s.heap.push lst0).update s.heap.objs.size (Obj.mapSeq (· ++ us.toArray)) }) : wpAny (model prog w) A (collect (.ref t)) R E s := by
  obtain ⟨ot, g1, g2, m, g3⟩ := id ht
  unfold collect
  refine wpAny_bind (wpAny_runValue (codeAny_builtin entry_proto_collect' ?_))
  show wpAny _ _ (do PySem.again (.builtin "list.__iadd__" ⟨[← newList [], .ref t], []⟩)) _ _ s
  refine wpAny_bind (wpAny_newList (wpAny_pure ⟨Code.quiet_builtin _ (by decide +kernel), codeAny_builtin entry_list_iadd' ?_⟩))
  show wpAny _ _ (Builtin.List.listExtendWith (.ref s.heap.objs.size) (.ref t) (.ref s.heap.objs.size)) _ _ { s with heap := s.heap.push lst0 }
  unfold Builtin.List.listExtendWith
  have g1' : (s.heap.push lst0).get? t = some ot := Heap.get?_push_of_some _ g1
  refine wpAny_bind (wpAny_typeOf (T := "tuple") ⟨ot, g1', g2⟩ ?_)
  have tt : (Value.type "tuple" == Value.type "tuple") = true := by rfl
  rw [if_pos (by rw [tt]; simp)]
  refine wpAny_bind (listItems_at g1' g3 ?_)
  refine wpAny_bind (listItems_at (xs := #[]) (n := 0) (Heap.get?_push_size _ rfl) rfl ?_)
  rw [if_neg (by simp)]
  refine wpAny_bind (listUpdate_at (xs := #[]) (n := 0) (Heap.get?_push_size _ rfl) rfl ?_ (Nat.zero_le _) (by
    show (#[] ++ us.toArray).size ≤ sizeLine + 1
    simp only [Array.size_append, List.size_toArray, List.length_nil]; omega))
  refine wpAny_pure ?_
  refine wpAny_bind (wpAny_load (get?_update_seq (Heap.get?_push_size _ rfl) _) ?_)
  show wpAny _ _ (pure ((#[] : Array Value) ++ us.toArray).toList) R E _
  have e : ((#[] : Array Value) ++ us.toArray).toList = us := by simp
  rw [e]
  exact wpAny_pure k
end
section
variable {prog : Program} {w : World} {A : Around} {E : Value → Shared → Prop} {s : Shared} {β : Type} {enc : β → PyData} {R : Value → β → Prop} {vs : List Value} {bs : List β}
/-- sorted(t) of data -/
theorem sorted_dataT {l : Addr} {Q : Value → Shared → Prop} (hl : s.heap.IsTuple l vs.toArray) (e : EachIs R vs bs) (er : EachIs (fun v b => ∃ as, Reads s.heap v (enc b) as) vs bs) (hal : AllAlike (bs.map enc)) (hk : Sortable (bs.map enc)) (hL : bs.length ≤ sizeLine)
    (hu : ∀ b, b ∈ bs → A.units + 2 + (enc b).depth < cLine) (h : ∀ out, out.length = bs.length → EachIs R out (bs.mergeSort (dataLe false enc)) → Q (.ref (s.heap.objs.size + 1)) { s with heap := sortedAll s.heap vs (List.toArray out) }) : wpAny (model prog w) A (call (.builtin "sorted") [.ref l]) Q E s := by
  have er' : EachIs (fun v b => ∃ as, Reads (sortingHeap (copyHeap s.heap vs) (s.heap.objs.size + 1) vs) v (enc b) as) vs bs := er.mono fun _ _ ⟨as, r⟩ => ⟨as, Reads.keeps (fun _ _ => sorting_copy_old) r⟩
  have hV : vs.length ≤ sizeLine := by rw [e.length]; exact hL
  refine call_function_entry_kw kind_sorted plain_sorted entry_sorted (args_sorted1 _) ?_
  unfold Builtin.«sorted»
  refine wpAny_bind (m := checkCount "sorted" 1 1 _) (wpAny_pure ?_)
  refine wpAny_bind (gather_tup hl hV ?_)
  refine wpAny_bind (wpAny_newList ?_ hV)
  have z : ((s.heap.push lst0).update s.heap.objs.size (Obj.mapSeq (· ++ vs.toArray))).objs.size = s.heap.objs.size + 1 := by
    rw [Heap.size_update, size_push']
  show wpAny _ _ _ _ _ { s with heap := copyHeap s.heap vs }
  rw [z]
  have S := SortsAt.data (prog := prog) (w := w) (A := A.in1.in1) (s := { s with heap := sortingHeap (copyHeap s.heap vs) (s.heap.objs.size + 1) vs }) (each_map (R := fun v d => ∃ as, Reads (sortingHeap (copyHeap s.heap vs) (s.heap.objs.size + 1) vs) v d as) enc er') hal hk (bound_map hu)
  refine wpAny_bind (wpAny_holding (wpAny_call_entry_kw slot_list_sort ⟨_, copyHeap_at s.heap vs, rfl⟩ entry_list_sort (list_sort_vals (s := { s with heap := copyHeap s.heap vs }) (copyHeap_at s.heap vs) S hV ?_) (args_list_sort _)))
  exact ⟨_, rfl, wpAny_pure ⟨_, rfl, h _ (by rw [sortVals_length false rfl]; exact e.length) (sortVals_data false e er' hal)⟩⟩
end
end CP
namespace CP
open PySem L2
def top (i : Nat) : Stmt := PySem.Challenge.pw_crossparity_k01_graphs_constructed.main.body.getD i (.Pass ⟨0, 0, 0, 0⟩)
abbrev sSource : Stmt := top 18
abbrev sNext : Stmt := top 19
abbrev sOne : Stmt := top 20
abbrev sMixed : Stmt := top 21
abbrev sGraph : Stmt := top 22
/-- three ints at a: a source of choices -/
def Src (H : Hp) (a : Addr) : Prop := ∃ x y z : Int, H a = some (.lst [.int x, .int y, .int z])
/-- all that stood stands, but what is at a -/
def But (a : Addr) (H H' : Hp) : Prop := ∀ b o, b ≠ a → H b = some o → H' b = some o
theorem But.refl {a : Addr} {H : Hp} : But a H H := fun _ _ _ e => e
theorem But.trans {a : Addr} {H H1 H2 : Hp} (x : But a H H1) (y : But a H1 H2) : But a H H2 := fun b o n e => y b o n (x b o n e)
theorem But.upd {a : Addr} {H : Hp} {o : HO} : But a H (L2.upd H a o) := fun b u n e => by rw [upd_ne n]; exact e
theorem But.new {a p : Addr} {H : Hp} {o : HO} (h : H p = none) : But a H (L2.upd H p o) := fun b u _ e => by rw [upd_ne (ne_of_none e h)]; exact e
theorem But.of_same {a : Addr} {H H' : Hp} (h : Same H H') : But a H H' := fun b o _ e => h b o e

def spSource : Sp := fun vs H Q _ => ∃ c : Int, vs = [.int c] ∧ ∀ p H', H p = none → Src H' p → Same H H' → Q (.ref p) H'
def spNext : Sp := fun vs H Q _ => ∃ (a : Addr) (m : Int), vs = [.ref a, .int m] ∧ Src H a ∧ 0 < m ∧ m < 1000000 ∧ ∀ (r : Int) H', 0 ≤ r → r < m → Src H' a → But a H H' → Q (.int r) H'
section
variable {P : Program} {w : World} {K : PySem.W.Frag} {mg : Str → Option Value} {base : Heap}
theorem scSource : FnScope ["_law_cell"] ["_law_cell"] (defScope sSource) := ⟨rfl, rfl, rfl, by decide +kernel, rfl, by decide +kernel, by decide +kernel⟩
theorem ok_source {f : Addr} {fd : FuncData} (F : Fun K "_law_source_of" "_law_source_of" sSource f fd) (mint : mg "int" = none) : FnOk P w K mg base CX0 1 f fd ["_law_cell"] spSource := by
  refine F.ok scSource (fun vs H Q E h => ?_) (fun cdv A outer s H vs Q E hr h => ?_)
  · obtain ⟨c, rfl, _⟩ := h; rfl
  · obtain ⟨c, rfl, k⟩ := h
    refine ⟨_, pss_cons (ps_set (i := 0) scSource.nd rfl (Or.inl rfl) (pe_ifExp (pt_cmpR op_ge (pv 0) pe_int (nomark _)) (pv 0) (pe_op op_sub (pe_op op_sub pe_int (pe_op op_mul pe_int (pv 0))) pe_int)))
      (pss_one (ps_ret (pe_lst (pa_cons (pe_op op_mul (pv 0) (pe_callTy call_int1 (by rfl) mint (by decide +kernel) (pa_cons (pe_cmpR op_ge (pv 0) (pe_op op_pow pe_int pe_int) (nomark _)) pa_nil)))
        (pa_cons (pe_op op_mod (pv 0) pe_int) (pa_cons pe_int pa_nil)))))), ?_⟩
    refine ⟨_, rfl, _, _, rfl, rfl, _, rfl, ite2 (fun _ => ⟨_, rfl, ?_⟩) (fun _ => ⟨_, rfl, _, _, rfl, rfl, .inl ⟨by decide, by decide⟩, _, _, rfl, rfl, _, _, rfl, rfl, ?_⟩)⟩
    all_goals
      refine ⟨_, rfl, _, rfl, _, _, rfl, rfl, ⟨by decide, by decide, by decide⟩, _, _, rfl, rfl, .inr ⟨_, rfl, _, _, rfl, rfl, .inr ?_, _, rfl, _, _, rfl, rfl, (show (0 : Int) < 2147483647 by decide), by show 3 ≤ sizeLine; decide, fun p hp => ?_⟩⟩
      · split <;> decide
      · exact k p _ hp ⟨_, _, _, upd_same⟩ fun b o e => by rw [upd_ne (ne_of_none e hp)]; exact e
theorem scNext : FnScope ["_law_source", "_law_many", "_law_found", "_law_prime", "_law_number"] ["_law_source", "_law_many"] (defScope sNext) := ⟨rfl, rfl, rfl, by decide +kernel, rfl, by decide +kernel, by decide +kernel⟩
theorem small_mod (n m : Int) (h : 0 < m) (h2 : m ≤ 2147483647) : -(2 ^ 64) < n % m ∧ n % m < 2 ^ 64 := by
  have a := Int.emod_nonneg n (Int.ne_of_gt h)
  have b := Int.emod_lt_of_pos n h
  omega
theorem ok_next {f : Addr} {fd : FuncData} (F : Fun K "_law_next" "_law_next" sNext f fd) : FnOk P w K mg base CX0 1 f fd ["_law_source", "_law_many"] spNext := by
  refine F.ok scNext (fun vs H Q E h => ?_) (fun cdv A outer s H vs Q E hr h => ?_)
  · obtain ⟨a, m, rfl, _⟩ := h; rfl
  · obtain ⟨a, m, rfl, ⟨x, y, z, hS⟩, h0, h1, k⟩ := h
    refine ⟨_, pss_cons (ps_if (pt_cmpR op_gt (pe_ix ix_list (pv 0) pe_int (fun _ _ => rfl)) pe_int (nomark _))
        (pss_cons (ps_set (i := 2) scNext.nd rfl (Or.inl rfl) (pe_op op_mod (pe_ix ix_list (pv 0) pe_int (fun _ _ => rfl)) (pv 1)))
        (pss_cons (ps_asg (pe_op op_fdiv (pe_ix ix_list (pv 0) pe_int (fun _ _ => rfl)) (pv 1)) (pg_sub (pv 0) pe_int set_list))
        (pss_one (ps_ret (pv 2))))) pss_nil)
      (pss_cons (ps_asg (pe_op op_add (pe_ix ix_list (pv 0) pe_int (fun _ _ => rfl)) pe_int) (pg_sub (pv 0) pe_int set_list))
      (pss_cons (ps_set (i := 3) scNext.nd rfl (Or.inl rfl) pe_int)
      (pss_cons (ps_set (i := 4) scNext.nd rfl (Or.inl rfl) (pe_op op_mod (pe_op op_add (pe_op op_add (pe_ix ix_list (pv 0) pe_int (fun _ _ => rfl)) (pe_op op_mul pe_int (pe_ix ix_list (pv 0) pe_int (fun _ _ => rfl)))) pe_int) (pv 3)))
      (pss_cons (ps_set (i := 4) scNext.nd rfl (Or.inl rfl) (pe_op op_mod (pe_op op_mul (pv 4) pe_int) (pv 3)))
      (pss_cons (ps_set (i := 4) scNext.nd rfl (Or.inl rfl) (pe_op op_mod (pe_op op_mul (pv 4) (pe_op op_add (pe_op op_fdiv (pv 4) pe_int) pe_int)) (pv 3)))
      (pss_cons (ps_set (i := 4) scNext.nd rfl (Or.inl rfl) (pe_op op_mod (pe_op op_mul (pv 4) (pe_op op_add (pe_op op_fdiv (pv 4) pe_int) pe_int)) pe_int))
      (pss_one (ps_ret (pe_op op_mod (pe_op op_fdiv (pv 4) pe_int) (pv 1)))))))))), ?_⟩
    have i0 : ∀ {x y z : Int}, atI [V.int x, V.int y, V.int z] 0 = some (.int x) := rfl
    have i1 : ∀ {x y z : Int}, atI [V.int x, V.int y, V.int z] 1 = some (.int y) := rfl
    have i2 : ∀ {x y z : Int}, atI [V.int x, V.int y, V.int z] 2 = some (.int z) := rfl
    refine ⟨_, rfl, a, _, _, _, rfl, rfl, SqL.of hS, i0, _, _, rfl, rfl, _, rfl, ite2 (fun _ => ?_) (fun _ => ?_)⟩
    · refine ⟨_, rfl, a, _, _, _, rfl, rfl, SqL.of hS, i0, _, rfl, _, _, rfl, rfl, h0, ?_⟩
      refine ⟨_, rfl, a, _, _, _, rfl, rfl, SqL.of hS, i0, _, rfl, _, _, rfl, rfl, ⟨h0, by omega⟩, _, rfl, a, _, _, 0, rfl, rfl, hS, rfl, _, rfl, ?_⟩
      exact k _ _ (Int.emod_nonneg _ (by omega)) (Int.emod_lt_of_pos _ h0) ⟨_, _, _, upd_same⟩ But.upd
    · refine ⟨_, rfl, a, _, _, _, rfl, rfl, SqL.of hS, i2, _, _, rfl, rfl, _, rfl, a, _, _, 2, rfl, rfl, hS, rfl, ?_⟩
      refine ⟨_, rfl, a, _, _, _, rfl, rfl, SqL.of upd_same, i1, _, rfl, a, _, _, _, rfl, rfl, SqL.of upd_same, i2, _, _, rfl, rfl, .inl ⟨by decide, by decide⟩, _, _, rfl, rfl, _, _, rfl, rfl, _, rfl, _, _, rfl, rfl, (show (0 : Int) < 2147483647 by decide), ?_⟩
      refine ⟨_, rfl, _, _, rfl, rfl, .inr ⟨by decide, by decide⟩, _, rfl, _, _, rfl, rfl, (show (0 : Int) < 2147483647 by decide), ?_⟩
      refine ⟨_, rfl, _, rfl, _, _, rfl, rfl, ⟨by decide, by decide⟩, _, _, rfl, rfl, _, _, rfl, rfl, .inl (small_mod _ _ (by decide) (by decide)), _, rfl, _, _, rfl, rfl, (show (0 : Int) < 2147483647 by decide), ?_⟩
      refine ⟨_, rfl, _, rfl, _, _, rfl, rfl, ⟨by decide, by decide⟩, _, _, rfl, rfl, _, _, rfl, rfl, .inl (small_mod _ _ (by decide) (by decide)), _, _, rfl, rfl, (show (0 : Int) < 2147483399 by decide), ?_⟩
      refine ⟨_, rfl, _, _, rfl, rfl, ⟨by decide, by decide⟩, _, rfl, _, _, rfl, rfl, h0, ?_⟩
      exact k _ _ (Int.emod_nonneg _ (by omega)) (Int.emod_lt_of_pos _ h0) ⟨_, _, _, upd_same⟩ But.upd
end
end CP
namespace CP
open PySem L2
def spOne (K : PySem.W.Frag) : Sp := fun vs H Q _ => ∃ (a b : Addr) (xs : List V), vs = [.ref a, .ref b] ∧ Src H a ∧ a ≠ b ∧ SqL K H b xs ∧ H b = some (.lst xs) ∧ 0 < xs.length ∧ xs.length < 100000 ∧
  ∀ x H', x ∈ xs → Src H' a → But a H H' → Q x H'
mutual
/-- a text, or a tracked tuple of such -/
inductive Tp (H : Hp) : V → PyData → Prop
  | str {z : Str} : PyData.strOk z = true → Tp H (.str z) (.str z)
  | tup {p : Addr} {xs : List V} {ds : List PyData} : H p = some (.tup xs) → TpAll H xs ds → Tp H (.ref p) (.tuple ds)
inductive TpAll (H : Hp) : List V → List PyData → Prop
  | nil : TpAll H [] []
  | cons {v : V} {vs : List V} {d : PyData} {ds : List PyData} : Tp H v d → TpAll H vs ds → TpAll H (v :: vs) (d :: ds)
end
def Item (H : Hp) (x : V) : Prop := ∃ d, Tp H x d ∧ d.depth ≤ 3
def spMixed (K : PySem.W.Frag) : Sp := fun vs H Q _ => ∃ (a b : Addr) (xs : List V), vs = [.ref a, .ref b] ∧ Src H a ∧ a ≠ b ∧ H b = some (.lst xs) ∧ (∀ x ∈ xs, Item H x) ∧ xs.length < 100000 ∧
  ∀ p ys H', ys.Perm xs → H p = none → H' p = some (.lst ys) → Src H' a → But a H H' → Q (.ref p) H'
section
variable {P : Program} {w : World} {K : PySem.W.Frag} {mg : Str → Option Value} {base : Heap}
theorem scOne : FnScope ["_law_source", "_law_some"] ["_law_source", "_law_some"] (defScope sOne) := ⟨rfl, rfl, rfl, by decide +kernel, rfl, by decide +kernel, by decide +kernel⟩
theorem ok_one {f fN : Addr} {fd fdN : FuncData} (F : Fun K "_law_one" "_law_one" sOne f fd) (mlen : mg "len" = none) (mN : mg "_law_next" = some (.ref fN)) (FN : Fun K "_law_next" "_law_next" sNext fN fdN) (bN : Binds K fdN ["_law_source", "_law_many"] []) :
    FnOk P w K mg base CX0 2 f fd ["_law_source", "_law_some"] (spOne K) := by
  have GN : FnOk P w K mg base CX0 1 fN fdN ["_law_source", "_law_many"] spNext := ok_next FN
  refine F.ok scOne (fun vs H Q E h => ?_) (fun cdv A outer s H vs Q E hr h => ?_)
  · obtain ⟨a, b, xs, rfl, _⟩ := h; rfl
  · obtain ⟨a, b, xs, rfl, hS, ab, hB, hB2, h0, h1, k⟩ := h
    refine ⟨_, pss_one (ps_ret (pe_ix ix_list (pv 1) (pe_call GN hr rfl mN FN.kp bN .nil pass0 (pa_cons (pv 0) (pa_cons (pe_callB call_len_seq (by rfl) mlen PySem.boot_len (pa_cons (pv 1) pa_nil)) pa_nil))) (fun _ _ => rfl))), ?_⟩
    refine ⟨_, rfl, _, rfl, _, rfl, b, _, rfl, .inl hB, a, _, rfl, hS, by omega, by omega, fun r H' r0 r1 S' B' => ?_⟩
    obtain ⟨j, rfl⟩ : ∃ j : Nat, r = j := ⟨r.toNat, by omega⟩
    have hj : j < xs.length := by omega
    exact ⟨b, xs, _, _, rfl, rfl, SqL.of (B' b _ ab.symm hB2), atI_nat (List.getElem?_eq_getElem hj), k _ _ (List.getElem_mem hj) S' B'⟩
theorem scMixed : FnScope ["_law_source", "_law_some", "_law_left", "_law_found"] ["_law_source", "_law_some"] (defScope sMixed) := ⟨rfl, rfl, rfl, by decide +kernel, rfl, by decide +kernel, by decide +kernel⟩
theorem erase_perm {α : Type} : ∀ {l : List α} {k : Nat} {y : α}, l[k]? = some y → (y :: l.eraseIdx k).Perm l
  | [], _, _, h => by simp at h
  | a :: l, 0, y, h => by
    obtain rfl : a = y := Option.some.inj h
    exact List.Perm.refl _
  | a :: l, k + 1, y, h => by
    have ih := erase_perm (l := l) (k := k) (y := y) h
    show (y :: a :: l.eraseIdx k).Perm (a :: l)
    exact (List.Perm.swap a y _).trans (ih.cons a)
mutual
theorem Tp.map {H H' : Hp} (s : ∀ p xs, H p = some (.tup xs) → H' p = some (.tup xs)) : ∀ {x : V} {d : PyData}, Tp H x d → Tp H' x d
  | _, _, .str h => .str h
  | _, _, .tup h a => .tup (s _ _ h) (TpAll.map s a)
theorem TpAll.map {H H' : Hp} (s : ∀ p xs, H p = some (.tup xs) → H' p = some (.tup xs)) : ∀ {xs : List V} {ds : List PyData}, TpAll H xs ds → TpAll H' xs ds
  | _, _, .nil => .nil
  | _, _, .cons h t => .cons (h.map s) (t.map s)
end
mutual
theorem Tp.dp {H : Hp} : ∀ {x : V} {d : PyData}, Tp H x d → Dp K H x d
  | _, _, .str _ => .str _
  | _, _, .tup h a => .tup (SqT.of h) (TpAll.dp a)
theorem TpAll.dp {H : Hp} : ∀ {xs : List V} {ds : List PyData}, TpAll H xs ds → DpAll K H xs ds
  | _, _, .nil => .nil
  | _, _, .cons h t => .cons h.dp t.dp
end
mutual
theorem Tp.lay {H : Hp} : ∀ {x : V} {d : PyData}, Tp H x d → d.canLay0 = true
  | _, _, .str o => by simp [PyData.canLay0, o]
  | _, _, .tup _ a => by simp [PyData.canLay0, TpAll.lay a]
theorem TpAll.lay {H : Hp} : ∀ {xs : List V} {ds : List PyData}, TpAll H xs ds → PyData.canLayAll0 ds = true
  | _, _, .nil => by simp [PyData.canLayAll0]
  | _, _, .cons h t => by simp [PyData.canLayAll0, h.lay, t.lay]
end
theorem Item.but {H H' : Hp} {a : Addr} {x : V} (S : Src H a) (B : But a H H') (h : Item H x) : Item H' x := by
  obtain ⟨d, t, e⟩ := h
  obtain ⟨x1, y1, z1, S⟩ := S
  exact ⟨d, t.map fun p xs q => B p _ (ne_of q S (fun z => by cases z)) q, e⟩
theorem Item.dp {H : Hp} {x : V} (h : Item H x) : ∃ d, Dp K H x d ∧ d.canLay0 = true ∧ d.depth ≤ 3 := by
  obtain ⟨d, t, e⟩ := h
  exact ⟨d, t.dp, t.lay, e⟩
theorem Item.txt {H : Hp} {z : Str} (o : PyData.strOk z = true) : Item H (.str z) := ⟨_, .str o, by simp [PyData.depth]⟩
theorem Item.edge {H : Hp} {p : Addr} {u v : Str} (h : H p = some (.tup [.str u, .str v])) (o1 : PyData.strOk u = true) (o2 : PyData.strOk v = true) : Item H (.ref p) := ⟨_, .tup h (.cons (.str o1) (.cons (.str o2) .nil)), by simp [PyData.depth, PyData.depthAll]⟩
theorem items_dp {H : Hp} : ∀ {xs : List V}, (∀ x ∈ xs, Item H x) → ∃ ds, DpAll K H xs ds ∧ ds.length = xs.length ∧ PyData.canLayAll0 ds = true ∧ PyData.depthAll ds ≤ 3
  | [], _ => ⟨[], .nil, rfl, by simp [PyData.canLayAll0], by simp [PyData.depthAll]⟩
  | x :: xs, h => by
    obtain ⟨d, d1, d2, d3⟩ := (h x List.mem_cons_self).dp (K := K)
    obtain ⟨ds, e1, e2, e3, e4⟩ := items_dp (xs := xs) fun y hy => h y (List.mem_cons_of_mem _ hy)
    refine ⟨d :: ds, .cons d1 e1, by simp [e2], by simp [PyData.canLayAll0, d2, e3], ?_⟩
    simp only [PyData.depthAll]; omega
theorem eqv_nil {ds : List PyData} : PyData.eqv (.list ds) (.list []) = decide (ds = []) := by
  cases ds <;> simp [PyData.eqv, PyData.eqvAll]
theorem ok_mixed {f fN : Addr} {fd fdN : FuncData} (F : Fun K "_law_mixed" "_law_mixed" sMixed f fd) (mlen : mg "len" = none) (mlist : mg "list" = none) (mN : mg "_law_next" = some (.ref fN)) (FN : Fun K "_law_next" "_law_next" sNext fN fdN) (bN : Binds K fdN ["_law_source", "_law_many"] []) :
    FnOk P w K mg base CX0 2 f fd ["_law_source", "_law_some"] (spMixed K) := by
  have GN : FnOk P w K mg base CX0 1 fN fdN ["_law_source", "_law_many"] spNext := ok_next FN
  refine F.ok scMixed (fun vs H Q E h => ?_) (fun cdv A outer s H vs Q E hr h => ?_)
  · obtain ⟨a, b, xs, rfl, _⟩ := h; rfl
  · obtain ⟨a, b, xs, rfl, hS, ab, hB, hI, h1, k⟩ := h
    have hu := hu_of hr
    refine ⟨_, pss_cons (ps_set (i := 2) scMixed.nd rfl (Or.inl rfl) (pe_callTy call_list_of (by rfl) mlist (by decide +kernel) (pa_cons (pv 1) pa_nil)))
      (pss_cons (ps_set (i := 3) scMixed.nd rfl (Or.inl rfl) (pe_lst pa_nil))
      (pss_cons (ps_while PassesOwn.never (pt_cmpR (op_neD hr.units) (pv 2) (pe_lst pa_nil) (nomark _))
        (pss_one (ps_expr (pe_bm PySem.F.plainAttrs_list PySem.F.slot_list_append PySem.F.type_list_append mt_append (pv 3) (pa_cons (pe_bm PySem.F.plainAttrs_list PySem.F.slot_list_pop PySem.F.type_list_pop mt_popAt (pv 2)
          (pa_cons (pe_call GN hr rfl mN FN.kp bN .nil pass0 (pa_cons (pv 0) (pa_cons (pe_callB call_len_seq (by rfl) mlen PySem.boot_len (pa_cons (pv 2) pa_nil)) pa_nil))) pa_nil)) pa_nil)))))
      (pss_one (ps_ret (pv 3))))), ?_⟩
    refine ⟨_, rfl, b, _, rfl, .inl (SqL.of hB), fun l hl => ?_⟩
    refine ⟨by show 0 ≤ sizeLine; decide, fun p hp => ?_⟩
    have S0 := hS
    obtain ⟨x0, y0, z0, hS0⟩ := hS
    have al : a ≠ l := ne_of_none hS0 hl
    have hl1 : L2.upd H l (.lst xs) l = some (.lst xs) := upd_same
    have ap : a ≠ p := ne_of_none (show L2.upd H l (.lst xs) a = some _ by rw [upd_ne al]; exact hS0) hp
    have lp : l ≠ p := ne_of_none hl1 hp
    have hp0 : H p = none := by rw [upd_ne lp.symm] at hp; exact hp
    have s1 : Same H (L2.upd (L2.upd H l (.lst xs)) p (.lst [])) := fun c o e => by
      rw [upd_ne (ne_of_none e hp0), upd_ne (ne_of_none e hl)]; exact e
    refine while_by (fun σ H' => ∃ left found, σ = [some (.ref a), some (.ref b), some (.ref l), some (.ref p)] ∧ H' l = some (.lst left) ∧ H' p = some (.lst found) ∧ (left ++ found).Perm xs ∧ Src H' a ∧ But a H H')
      (fun _ H' => match H' l with | some (.lst ys) => ys.length | _ => 0) ?_ ?_ ?_
    · exact ⟨xs, [], rfl, by rw [upd_ne lp]; exact upd_same, upd_same, by simp, ⟨x0, y0, z0, s1 _ _ hS0⟩, But.of_same s1⟩
    · rintro σ H' ⟨left, found, rfl, e1, e2, pm, S', B'⟩
      have lenx : left.length + found.length = xs.length := by have := pm.length_eq; rw [List.length_append] at this; exact this
      have each : ∀ x ∈ left, Item H' x := fun x hx => (hI x (pm.mem_iff.mp (List.mem_append_left _ hx))).but S0 B'
      refine ⟨_, rfl, by show 0 ≤ sizeLine; decide, fun q hq => ?_⟩
      have nq : ∀ {c : Addr} {o : HO}, H' c = some o → L2.upd H' q (.lst []) c = some o := fun e => by rw [upd_ne (ne_of_none e hq)]; exact e
      have each2 : ∀ x ∈ left, Item (L2.upd H' q (.lst [])) x := fun x hx => (each x hx).but S' (But.new hq)
      obtain ⟨ds, d1, d2, d3, d4⟩ := items_dp (K := K) each2
      refine ⟨.list ds, .list [], .lst (SqL.of (nq e1)) d1, .lst (SqL.of upd_same) .nil, ?_, by decide, _, rfl, ?_⟩
      · have c1 : (PyData.list ds).canLay0 = true := by simp [PyData.canLay0, d3]
        have c2 : (PyData.list ds).depth = PyData.depthAll ds + 1 := by first | rfl | simp [PyData.depth, Nat.add_comm]
        unfold SeqAt.shaped; rw [c1, c2]; simp; omega
      rw [eqv_nil]
      cases left with
      | nil =>
        have : ds = [] := by cases ds with | nil => rfl | cons _ _ => simp at d2
        subst this
        refine iteF ⟨_, rfl, ?_⟩
        refine k p found _ (by simpa using pm) hp0 (nq e2) ?_ (B'.trans (But.new hq))
        obtain ⟨x1, y1, z1, S'⟩ := S'
        exact ⟨x1, y1, z1, nq S'⟩
      | cons y0 left =>
        have : ds ≠ [] := by intro e; rw [e] at d2; simp at d2
        rw [decide_eq_false this]
        refine iteT ?_
        refine ⟨_, rfl, .inl ⟨rfl, _, SqL.of (nq e2)⟩, _, rfl, .inl ⟨rfl, _, SqL.of (nq e1)⟩, _, rfl, _, rfl, l, _, rfl, .inl (SqL.of (nq e1)), a, _, rfl, ?_, by first | (simp; done) | (simp; omega), by simp at lenx ⊢; omega, fun r H2 r0 r1 S2 B2 => ?_⟩
        · obtain ⟨x1, y1, z1, S'⟩ := S'
          exact ⟨x1, y1, z1, nq S'⟩
        obtain ⟨j, rfl⟩ : ∃ j : Nat, r = j := ⟨r.toNat, by omega⟩
        have hj : j < (y0 :: left).length := by simp at r1 ⊢; omega
        have e1' := B2 l _ al.symm (nq e1)
        have e2' := B2 p _ ap.symm (nq e2)
        refine ⟨l, _, _, j, _, rfl, rfl, e1', by omega, by simp at hj lenx; omega, seqIndex_of (by omega) (by omega), List.getElem?_eq_getElem hj, ?_⟩
        have e2'' : L2.upd H2 l (.lst ((y0 :: left).eraseIdx j)) p = some (.lst found) := by rw [upd_ne lp.symm]; exact e2'
        refine ⟨p, _, _, rfl, rfl, e2'', by rw [sizeLine_eq]; simp at lenx; omega, ?_⟩
        have pe := erase_perm (List.getElem?_eq_getElem hj)
        obtain ⟨x2, y2, z2, S2⟩ := S2
        refine ⟨⟨(y0 :: left).eraseIdx j, found ++ [(y0 :: left)[j]], rfl, by rw [upd_ne lp]; exact upd_same, upd_same, ?_, ⟨x2, y2, z2, by rw [upd_ne ap, upd_ne al]; exact S2⟩, fun c o n e => ?_⟩, ?_⟩
        · refine List.Perm.trans ?_ pm
          have q1 : ((y0 :: left).eraseIdx j ++ (found ++ [(y0 :: left)[j]])).Perm ((y0 :: left)[j] :: (y0 :: left).eraseIdx j ++ found) := by
            rw [← List.append_assoc]
            exact (List.perm_append_comm).trans (List.Perm.refl _)
          exact q1.trans (pe.append_right found)
        · rw [upd_ne (ne_of_none e hp0), upd_ne (ne_of_none e hl)]
          exact B2 c o n (nq (B' c o n e))
        · show (match L2.upd (L2.upd H2 l _) p _ l with | some (.lst ys) => ys.length | _ => 0) < (match H' l with | some (.lst ys) => ys.length | _ => 0)
          rw [upd_ne lp, upd_same, e1]
          show ((y0 :: left).eraseIdx j).length < (y0 :: left).length
          rw [List.length_eraseIdx_of_lt hj]; simp
    · rintro σ H' Q1 Q2 m ⟨v, ev, hz, q⟩
      exact ⟨v, ev, hz, fun p hp => let ⟨d, e, c1, c2, c3, c4, kk, ek, q⟩ := q p hp; ⟨d, e, c1, c2, c3, c4, kk, ek, m _ _ q⟩⟩
end
end CP
namespace CP
open PySem L2
abbrev sInit : Stmt := inClass (top 8) 0
-- no sApart
abbrev sRow : Stmt := top 9
abbrev sCouple : Stmt := top 10
abbrev sName : Stmt := top 11
abbrev sVerts : Stmt := top 12
abbrev sEdges : Stmt := top 13
abbrev sAmong : Stmt := top 14
abbrev sJoins : Stmt := top 15
/-- u < v as Python compares texts -/
def ltS (u v : Str) : Bool := decide (u.cps.toList < v.cps.toList)
def spRow : Sp := fun vs H Q _ => ∃ (a : Addr) (xs : List V), vs = [.ref a] ∧ (H a = some (.lst xs) ∨ H a = some (.tup xs)) ∧ ∀ H', Same H H' → Q (.bl true) H'
def spCouple : Sp := fun vs H Q _ => ∃ (a : Addr) (x y : V), vs = [.ref a] ∧ H a = some (.tup [x, y]) ∧ Q (.bl true) H
def spAmong (K : PySem.W.Frag) : Sp := fun vs H Q _ => ∃ (a : Addr) (ns : List Str) (z : Str), vs = [.ref a, .str z] ∧ (SqL K H a (ns.map V.str) ∨ SqT K H a (ns.map V.str)) ∧ Q (.bl (decide (z ∈ ns))) H
def spJoins (K : PySem.W.Frag) : Sp := fun vs H Q _ => ∃ (a p : Addr) (ns : List Str) (u v : Str), vs = [.ref a, .ref p] ∧ (SqL K H a (ns.map V.str) ∨ SqT K H a (ns.map V.str)) ∧ H p = some (.tup [.str u, .str v]) ∧ Q (.bl (decide (u ∈ ns) && (decide (v ∈ ns) && ltS u v))) H
def spApart : Sp := fun vs H Q _ => ∃ (p q : Addr) (u v x y : Str), vs = [.ref p, .ref q] ∧ H p = some (.tup [.str u, .str v]) ∧ H q = some (.tup [.str x, .str y]) ∧ Q (.bl (decide (u ≠ x ∧ u ≠ y ∧ v ≠ x ∧ v ≠ y))) H
section
variable {P : Program} {w : World} {K : PySem.W.Frag} {mg : Str → Option Value} {base : Heap}
theorem kit2 {K : PySem.W.Frag} {t : String} (h : t = "list" ∨ t = "tuple") : PySem.W.kitAny K (.type t) [.type "list", .type "tuple"] = some true := by
  rcases h with rfl | rfl
  · exact kitAny_cons (kit_ty (b := "list") (r := true) (by decide +kernel)) (fun z => nomatch z) (fun _ => rfl)
  · exact kitAny_cons (kit_ty (b := "list") (r := false) (by decide +kernel)) (fun _ => kitAny_cons (kit_ty (b := "tuple") (r := true) (by decide +kernel)) (fun z => nomatch z) (fun _ => rfl)) (fun z => nomatch z)
theorem scRow : FnScope ["value"] ["value"] (defScope sRow) := ⟨rfl, rfl, rfl, by decide +kernel, rfl, by decide +kernel, by decide +kernel⟩
theorem ok_row {f : Addr} {fd : FuncData} (F : Fun K "is_row" "is_row" sRow f fd) (mi : mg "isinstance" = none) (ml : mg "list" = none) (mt : mg "tuple" = none) : FnOk P w K mg base CX0 1 f fd ["value"] spRow := by
  refine F.ok scRow (fun vs H Q E h => ?_) (fun cdv A outer s H vs Q E hr h => ?_)
  · obtain ⟨a, xs, rfl, _⟩ := h; rfl
  · obtain ⟨a, xs, rfl, hA, k⟩ := h
    refine ⟨_, pss_one (ps_ret (pe_callB call_isiT (by rfl) mi (by decide +kernel) (pa_cons (pv 0) (pa_cons (pe_tup (pa_cons (pe_bltn (v := .ty "list") (by rfl) ml (by decide +kernel) rfl) (pa_cons (pe_bltn (v := .ty "tuple") (by rfl) mt (by decide +kernel) rfl) pa_nil))) pa_nil)))), ?_⟩
    refine ⟨_, rfl, by show 2 ≤ sizeLine; decide, fun t ht => ?_⟩
    have s1 : Same H (L2.upd H t (.tup [.ty "list", .ty "tuple"])) := fun c o e => by rw [upd_ne (ne_of_none e ht)]; exact e
    rcases hA with hA | hA
    · exact ⟨_, t, _, .type "list", _, true, rfl, upd_same, .cons (.ty _) (.cons (.ty _) .nil), .base (.lst (s1 _ _ hA)), kit2 (.inl rfl), k _ s1⟩
    · exact ⟨_, t, _, .type "tuple", _, true, rfl, upd_same, .cons (.ty _) (.cons (.ty _) .nil), .base (.tup (s1 _ _ hA)), kit2 (.inr rfl), k _ s1⟩
theorem scCouple : FnScope ["value"] ["value"] (defScope sCouple) := ⟨rfl, rfl, rfl, by decide +kernel, rfl, by decide +kernel, by decide +kernel⟩
theorem ok_couple {f : Addr} {fd : FuncData} (F : Fun K "is_couple" "is_couple" sCouple f fd) (mi : mg "isinstance" = none) (ml : mg "len" = none) (mt : mg "tuple" = none) : FnOk P w K mg base CX0 1 f fd ["value"] spCouple := by
  refine F.ok scCouple (fun vs H Q E h => ?_) (fun cdv A outer s H vs Q E hr h => ?_)
  · obtain ⟨a, x, y, rfl, _⟩ := h; rfl
  · obtain ⟨a, x, y, rfl, hA, k⟩ := h
    refine ⟨_, pss_one (ps_ret (pe_and (pe_callB call_isi (by rfl) mi (by decide +kernel) (pa_cons (pv 0) (pa_cons (pe_bltn (v := .ty "tuple") (by rfl) mt (by decide +kernel) rfl) pa_nil)))
      (pe_one (pe_cmpR op_eq (pe_callB call_len_seq (by rfl) ml PySem.boot_len (pa_cons (pv 0) pa_nil)) pe_int (nomark _))))), ?_⟩
    refine ⟨_, rfl, _, _, .type "tuple", _, true, rfl, .ty _, .base (.tup hA), kit_ty (by decide +kernel), _, rfl, iteT ?_⟩
    refine ⟨_, rfl, a, _, rfl, .inr (SqT.of hA), rfl, ?_⟩
    exact k
theorem scAmong : FnScope ["vertices", "value"] ["vertices", "value"] (defScope sAmong) := ⟨rfl, rfl, rfl, by decide +kernel, rfl, by decide +kernel, by decide +kernel⟩
theorem inV_txt (z : Str) (ns : List Str) : inV (.str z) (ns.map V.str) = decide (z ∈ ns) := by
  have e : inV (.str z) (ns.map V.str) = ns.any (fun n => n == z) := by
    unfold inV; rw [List.any_map]; rfl
  rw [e]
  by_cases c : z ∈ ns
  · rw [decide_eq_true c]; exact List.any_eq_true.mpr ⟨z, c, by simp⟩
  · rw [decide_eq_false c]
    cases h : ns.any (fun n => n == z) with
    | false => rfl
    | true =>
      obtain ⟨n, hn, q⟩ := List.any_eq_true.mp h
      exact absurd (by have := beq_iff_eq.mp q; rw [this] at hn; exact hn) c
theorem flat_txt (ns : List Str) : (ns.map V.str).all flatV = true := by simp [List.all_eq_true, flatV]
theorem ok_among {f : Addr} {fd : FuncData} (F : Fun K "is_among" "is_among" sAmong f fd) (mi : mg "isinstance" = none) (ms : mg "str" = none) : FnOk P w K mg base CX0 1 f fd ["vertices", "value"] (spAmong K) := by
  refine F.ok scAmong (fun vs H Q E h => ?_) (fun cdv A outer s H vs Q E hr h => ?_)
  · obtain ⟨a, ns, z, rfl, _⟩ := h; rfl
  · obtain ⟨a, ns, z, rfl, hA, k⟩ := h
    refine ⟨_, pss_one (ps_ret (pe_and (pe_callB call_isi (by rfl) mi (by decide +kernel) (pa_cons (pv 1) (pa_cons (pe_bltn (v := .ty "str") (by rfl) ms (by decide +kernel) rfl) pa_nil))) (pe_one (pe_cmpR op_in_seq (pv 1) (pv 0) rfl)))), ?_⟩
    refine ⟨_, rfl, _, _, .type "str", _, true, rfl, .ty _, .base (.str z), kit_ty (by decide +kernel), _, rfl, iteT ?_⟩
    refine ⟨_, rfl, _, rfl, a, _, rfl, hA, rfl, flat_txt ns, ?_⟩
    rw [inV_txt]; exact k
theorem scJoins : FnScope ["vertices", "value", "low", "high"] ["vertices", "value"] (defScope sJoins) := ⟨rfl, rfl, rfl, by decide +kernel, rfl, by decide +kernel, by decide +kernel⟩
theorem ok_joins {f fC fA : Addr} {fd fdC fdA : FuncData} (F : Fun K "joins" "joins" sJoins f fd) (mC : mg "is_couple" = some (.ref fC)) (FC : FnOk P w K mg base CX0 1 fC fdC ["value"] spCouple) (kC : PySem.W.keepIn K (.ref fC) = true) (bC : Binds K fdC ["value"] [])
    (mA : mg "is_among" = some (.ref fA)) (FA : FnOk P w K mg base CX0 1 fA fdA ["vertices", "value"] (spAmong K)) (kA : PySem.W.keepIn K (.ref fA) = true) (bA : Binds K fdA ["vertices", "value"] []) : FnOk P w K mg base CX0 2 f fd ["vertices", "value"] (spJoins K) := by
  refine F.ok scJoins (fun vs H Q E h => ?_) (fun cdv A outer s H vs Q E hr h => ?_)
  · obtain ⟨a, p, ns, u, v, rfl, _⟩ := h; rfl
  · obtain ⟨a, p, ns, u, v, rfl, hA, hP, k⟩ := h
    refine ⟨_, pss_cons (ps_if (pt_not (pt_val (pe_call FC hr rfl mC kC bC .nil pass0 (pa_cons (pv 1) pa_nil)))) (pss_one (ps_ret pe_bl)) pss_nil)
      (pss_cons (ps_asg (pv 1) (pg_tup rfl (pgs_cons (pg_name (i := 2) scJoins.nd rfl (Or.inl rfl)) (pgs_cons (pg_name (i := 3) scJoins.nd rfl (Or.inl rfl)) pgs_nil))))
      (pss_one (ps_ret (pe_and (pe_call FA hr rfl mA kA bA .nil pass0 (pa_cons (pv 0) (pa_cons (pv 2) pa_nil))) (pe_and (pe_call FA hr rfl mA kA bA .nil pass0 (pa_cons (pv 0) (pa_cons (pv 3) pa_nil))) (pe_one (pe_cmpR op_lt_str (pv 2) (pv 3) (nomark _)))))))), ?_⟩
    refine ⟨_, rfl, p, _, _, rfl, hP, _, rfl, iteF ?_⟩
    refine ⟨_, rfl, p, _, rfl, SqT.of hP, rfl, _, _, rfl, _, _, rfl, rfl, ?_⟩
    refine ⟨_, rfl, _, rfl, a, ns, u, rfl, hA, _, rfl, ?_⟩
    by_cases c1 : u ∈ ns
    · rw [decide_eq_true c1] at k ⊢
      refine iteT ⟨_, rfl, _, rfl, a, ns, v, rfl, hA, _, rfl, ?_⟩
      by_cases c2 : v ∈ ns
      · rw [decide_eq_true c2] at k ⊢
        exact iteT ⟨_, rfl, _, rfl, _, _, rfl, rfl, k⟩
      · rw [decide_eq_false c2] at k ⊢
        exact iteF k
    · rw [decide_eq_false c1] at k ⊢
      exact iteF k
end
end CP
/-! rows (lists or tuples) walked -/
namespace CP
open PySem PySem.Spec PyProof.Rows L2
def RowAt (H : Hp) (a : Addr) (xs : List V) : Prop := H a = some (.lst xs) ∨ H a = some (.tup xs)
theorem RowAt.same {H H' : Hp} {a : Addr} {xs : List V} (h : RowAt H a xs) (s : Same H H') : RowAt H' a xs := h.imp (s _ _) (s _ _)
theorem RowAt.eq {H H' : Hp} {a : Addr} {xs : List V} (h : RowAt H a xs) (s : Same H H') : H' a = H a := by
  rcases h with h | h <;> rw [h, s _ _ h]
theorem RowAt.sq {K : PySem.W.Frag} {H : Hp} {a : Addr} {xs : List V} (h : RowAt H a xs) : SqL K H a xs ∨ SqT K H a xs := h.imp SqL.of SqT.of
/-- a list or a tuple walked: J gives its items -/
def iSeq (tl : TE) : TI := fun σ H R => tl σ H fun x H1 => ∃ a xs, x = .ref a ∧ RowAt H1 a xs ∧ ∀ J G, Walk J xs.length G (YAt xs) → (∀ H, H a = H1 a → G H) → R J H1
theorem pi_seq {X : Cx} {tg l : Expr} {tl : TE} (hl : PE X l tl) : PI X tg l (iSeq tl) := by
  refine ⟨fun pins s σ H R I h => ?_⟩
  refine thn (hl.run pins s σ H _ I h) fun v s1 ⟨x, H1, I1, r1, q1⟩ => ?_
  obtain ⟨a, xs, e, hrow, q⟩ := q1
  subst e
  cases r1
  rcases hrow with hq | hq
  · obtain ⟨its, rv, p, hz⟩ := I1.list (SqL.of hq)
    refine wpAny_pyIter_list p.isList ?_
    refine ⟨s1.heap.objs.size, [s1.heap.objs.size], _, _, H1, rfl, I1.kept (t' := s1.toks) fun b o e => Heap.get?_push_of_some _ e, turn_list a _, ⟨_, Heap.get?_push_size _ rfl, rfl, rfl⟩, fun b hb => ?_, q (Itl X.K a) _ walk_list fun H s => SqL.of (s.trans hq)⟩
    have e : b = s1.heap.objs.size := by simpa using hb
    subst e
    exact I1.fpOk (Nat.le_refl _) (I1.hok.fresh (Nat.le_refl _))
  · obtain ⟨its, rv, p, hz⟩ := I1.tuple (SqT.of hq)
    refine wpAny_pyIter_tuple p ?_
    refine ⟨s1.heap.objs.size, [s1.heap.objs.size], _, _, H1, rfl, I1.kept (t' := s1.toks) fun b o e => Heap.get?_push_of_some _ e, turn_tuple a _, ⟨_, Heap.get?_push_size _ rfl, rfl, rfl⟩, fun b hb => ?_, q (Itt X.K a) _ walk_tup fun H s => SqT.of (s.trans hq)⟩
    have e : b = s1.heap.objs.size := by simpa using hb
    subst e
    exact I1.fpOk (Nat.le_refl _) (I1.hok.fresh (Nat.le_refl _))
end CP
namespace CP
open PySem L2
abbrev letters : Str := "abcdefghijklmnopqrstuvwxyz"
structure NameOk (z : Str) : Prop where
  pos : 0 < z.length
  most : z.length ≤ 8
  all : ∀ c ∈ z.cps.toList, c ∈ letters.cps.toList
def spName : Sp := fun vs H Q _ => ∃ z : Str, vs = [.str z] ∧ NameOk z ∧ ∀ H', Same H H' → Q (.bl true) H'
def spVerts : Sp := fun vs H Q _ => ∃ (a : Addr) (ns : List Str), vs = [.ref a] ∧ RowAt H a (ns.map V.str) ∧ 0 < ns.length ∧ ns.length ≤ 8 ∧ ns.Nodup ∧ (∀ z ∈ ns, NameOk z) ∧ ∀ H', Same H H' → Q (.bl true) H'
/-- edges as tracked tuples: address and the two names -/
abbrev Ed := Addr × (Str × Str)
def EdAt (H : Hp) (p : Ed) : Prop := H p.1 = some (.tup [.str p.2.1, .str p.2.2])
/-- an edge between names of ns -/
def EdOk (ns : List Str) (e : Str × Str) : Prop := e.1 ∈ ns ∧ e.2 ∈ ns ∧ ltS e.1 e.2 = true
def spEdges : Sp := fun vs H Q _ => ∃ (a b : Addr) (ns : List Str) (ks : List Ed), vs = [.ref a, .ref b] ∧ RowAt H a (ns.map V.str) ∧ RowAt H b (ks.map fun p => V.ref p.1) ∧ (∀ p ∈ ks, EdAt H p) ∧ (∀ p ∈ ks, EdOk ns p.2) ∧
  (ks.map (·.2)).Nodup ∧ ks.length ≤ 18 ∧ ∀ H', Same H H' → Q (.bl true) H'
theorem Same.new {H : Hp} {p : Addr} {o : HO} (h : H p = none) : Same H (L2.upd H p o) := fun c u e => by rw [upd_ne (ne_of_none e h)]; exact e
/-- the list at D grows: what stood before D stands -/
theorem Same.grow {H H' : Hp} {D : Addr} {o : HO} (h : H D = none) (s : Same H H') : Same H (L2.upd H' D o) := fun c u e => by rw [upd_ne (ne_of_none e h)]; exact s c u e
section
variable {P : Program} {w : World} {K : PySem.W.Frag} {mg : Str → Option Value} {base : Heap}
theorem scName : FnScope ["value", "letter"] ["value"] (defScope sName) := ⟨rfl, rfl, rfl, by decide +kernel, rfl, by decide +kernel, by decide +kernel⟩
theorem ok_name {f : Addr} {fd : FuncData} {t1 t2 : Tok} (F : Fun K "is_name" "is_name" sName f fd) (mi : mg "isinstance" = none) (ms : mg "str" = none) (ml : mg "len" = none) (ma : mg "all" = none) (mL : mg "LETTERS" = some (.str letters t1)) (mN : mg "LONGEST_NAME" = some (.int 8 t2)) :
    FnOk P w K mg base CX0 1 f fd ["value"] spName := by
  refine F.ok scName (fun vs H Q E h => ?_) (fun cdv A outer s H vs Q E hr h => ?_)
  · obtain ⟨z, rfl, _⟩ := h; rfl
  · obtain ⟨z, rfl, N, k⟩ := h
    refine ⟨_, pss_cons (ps_if (PW.pt (pw_or (pt_not (pt_val (pe_callB call_isi (by rfl) mi (by decide +kernel) (pa_cons (pv 0) (pa_cons (pe_bltn (v := .ty "str") (by rfl) ms (by decide +kernel) rfl) pa_nil)))))
        (pw_or (pt_cmpR op_eq (pe_callB call_len_str (by rfl) ml PySem.boot_len (pa_cons (pv 0) pa_nil)) pe_int (nomark _)) (pw_or1 (pt_cmpR op_gt (pe_callB call_len_str (by rfl) ml PySem.boot_len (pa_cons (pv 0) pa_nil)) (pe_glob (v := .int 8) rfl mN ⟨_, rfl⟩) (nomark _))))))
        (pss_one (ps_ret pe_bl)) pss_nil)
      (pss_one (ps_ret (pe_callB (cr_all rfl) (by rfl) ma (by decide +kernel) (pa_cons (pe_lc (own := [("letter", 1)]) (g := gName 1) (tt := tYes) rfl scName.nd (pi_str (pv 0)) (blkOk_by (own := [("letter", 1)]) (N := ["value", "letter"]) (sc := defScope sName) (by decide +kernel))
        (fun _ _ _ _ _ => pg_name (i := 1) scName.nd rfl (Or.inl rfl)) (fun _ _ _ _ _ => pts_nil) (fun _ _ _ _ _ => pe_cmpR op_in_sign (pv 1) (pe_glob (v := .str letters) rfl mL ⟨_, rfl⟩) rfl)) pa_nil)))), ?_⟩
    have hz : z.length ≤ sizeLine := by have := N.most; rw [sizeLine_eq]; omega
    refine ⟨_, rfl, _, _, .type "str", _, true, rfl, .ty _, .base (.str z), kit_ty (by decide +kernel), _, rfl, iteF ?_⟩
    refine ⟨_, rfl, z, rfl, hz, rfl, _, rfl, ?_⟩
    rw [decide_eq_false (by intro e; have := N.pos; injection e with e; omega)]
    refine iteF ⟨_, rfl, z, rfl, hz, _, _, rfl, rfl, _, rfl, ?_⟩
    rw [decide_eq_false (by have := N.most; omega)]
    refine iteF ?_
    refine ⟨_, rfl, z, rfl, fun D hD => lc_it walk_str (fun i H' => H' D = some (.lst ((List.replicate i true).map V.bl)) ∧ Same H H') ⟨upd_same, Same.new hD⟩ (fun _ _ _ _ => True.intro) ?_ ?_⟩
    · rintro i x H1 H2 hi ⟨e1, s1⟩ ⟨rfl, c, hc, rfl⟩
      refine ⟨rfl, _, rfl, c, letters, rfl, rfl, _, e1, by rw [List.length_map, List.length_replicate, sizeLine_eq]; have := N.most; have e : z.cps.size = z.length := rfl; omega, ?_, Same.grow hD s1⟩
      rw [decide_eq_true (N.all c (by simpa using Array.mem_of_getElem? hc)), upd_same, List.replicate_succ', List.map_append]; rfl
    · rintro H1 ⟨e1, s1⟩
      refine ⟨D, List.replicate z.cps.size true, rfl, SqL.of e1, ?_⟩
      have e : (List.replicate z.cps.size true).all id = true := by simp
      rw [e]; exact k _ s1
theorem scVerts : FnScope ["value", "name"] ["value"] (defScope sVerts) := ⟨rfl, rfl, rfl, by decide +kernel, rfl, by decide +kernel, by decide +kernel⟩
theorem ok_verts {f fR fN : Addr} {fd fdR fdN : FuncData} {t1 : Tok} (F : Fun K "are_vertices" "are_vertices" sVerts f fd) (ml : mg "len" = none) (ma : mg "all" = none) (mset : mg "set" = none) (mM : mg "MOST_VERTICES" = some (.int 8 t1))
    (mR : mg "is_row" = some (.ref fR)) (FR : FnOk P w K mg base CX0 1 fR fdR ["value"] spRow) (kR : PySem.W.keepIn K (.ref fR) = true) (bR : Binds K fdR ["value"] [])
    (mN : mg "is_name" = some (.ref fN)) (FN : FnOk P w K mg base CX0 1 fN fdN ["value"] spName) (kN : PySem.W.keepIn K (.ref fN) = true) (bN : Binds K fdN ["value"] []) : FnOk P w K mg base CX0 2 f fd ["value"] spVerts := by
  refine F.ok scVerts (fun vs H Q E h => ?_) (fun cdv A outer s H vs Q E hr h => ?_)
  · obtain ⟨a, ns, rfl, _⟩ := h; rfl
  · obtain ⟨a, ns, rfl, hA, h0, h8, nd, each, k⟩ := h
    refine ⟨_, pss_cons (ps_if (PW.pt (pw_or (pt_not (pt_val (pe_call FR hr rfl mR kR bR .nil pass0 (pa_cons (pv 0) pa_nil))))
        (pw_or (pt_cmpR op_eq (pe_callB call_len_seq (by rfl) ml PySem.boot_len (pa_cons (pv 0) pa_nil)) pe_int (nomark _)) (pw_or1 (pt_cmpR op_gt (pe_callB call_len_seq (by rfl) ml PySem.boot_len (pa_cons (pv 0) pa_nil)) (pe_glob (v := .int 8) rfl mM ⟨_, rfl⟩) (nomark _))))))
        (pss_one (ps_ret pe_bl)) pss_nil)
      (pss_one (ps_ret (pe_and (pe_callB (cr_all rfl) (by rfl) ma (by decide +kernel) (pa_cons (pe_lc (own := [("name", 1)]) (g := gName 1) (tt := tYes) rfl scVerts.nd (pi_seq (pv 0)) (blkOk_by (own := [("name", 1)]) (N := ["value", "name"]) (sc := defScope sVerts) (by decide +kernel))
        (fun _ _ _ _ _ => pg_name (i := 1) scVerts.nd rfl (Or.inl rfl)) (fun _ _ _ _ _ => pts_nil) (fun _ _ _ _ _ => pe_call FN hr rfl mN kN bN .nil pass0 (pa_cons (pv 1) pa_nil))) pa_nil))
        (pe_one (pe_cmpR op_eq (pe_lenSetX rfl (by rfl) ml (by rfl) mset (pv 0)) (pe_callB call_len_seq (by rfl) ml PySem.boot_len (pa_cons (pv 0) pa_nil)) (nomark _)))))), ?_⟩
    refine ⟨_, rfl, a, _, rfl, hA, fun H1 s1 => ⟨_, rfl, iteF ?_⟩⟩
    have hA1 := hA.same s1
    refine ⟨_, rfl, a, _, rfl, hA1.sq, rfl, _, rfl, ?_⟩
    rw [decide_eq_false (by intro e; injection e with e; rw [List.length_map] at e; omega)]
    refine iteF ⟨_, rfl, a, _, rfl, hA1.sq, _, _, rfl, rfl, _, rfl, ?_⟩
    rw [decide_eq_false (by rw [List.length_map]; omega)]
    refine iteF ?_
    refine ⟨_, rfl, a, _, rfl, hA1, fun J GG wk hG D hD => lc_it wk (fun i H' => H' D = some (.lst ((List.replicate i true).map V.bl)) ∧ Same H1 H') ⟨upd_same, Same.new hD⟩ (fun i H' _ ⟨_, s2⟩ => hG _ (hA1.eq s2)) ?_ ?_⟩
    · rintro i x H2 H2' hi0 ⟨e1, s2⟩ ⟨rfl, hi⟩
      have li : i < ns.length := by have := (List.getElem?_eq_some_iff.mp hi).1; rw [List.length_map] at this; exact this
      rw [List.getElem?_map, List.getElem?_eq_getElem li] at hi
      obtain rfl : V.str ns[i] = x := Option.some.inj hi
      refine ⟨rfl, _, rfl, _, rfl, each _ (List.getElem_mem li), fun H3 s3 => ⟨_, s3 _ _ e1, by rw [List.length_map, List.length_replicate, sizeLine_eq]; omega, ?_, Same.grow hD (s2.trans s3)⟩⟩
      rw [upd_same, List.replicate_succ', List.map_append]; rfl
    · rintro H2 ⟨e1, s2⟩
      refine ⟨D, _, rfl, SqL.of e1, _, rfl, ?_⟩
      have e : (List.replicate (ns.map V.str).length true).all id = true := by simp
      rw [e]
      refine iteT ⟨_, rfl, a, ns, rfl, (hA1.same s2).sq, by omega, fun n _ q => ⟨_, rfl, a, _, rfl, (hA1.same s2).sq, rfl, ?_⟩⟩
      rw [q.mpr nd, decide_eq_true (by rw [List.length_map])]
      exact k _ (s1.trans s2)
theorem scEdges : FnScope ["vertices", "value", "edge"] ["vertices", "value"] (defScope sEdges) := ⟨rfl, rfl, rfl, by decide +kernel, rfl, by decide +kernel, by decide +kernel⟩
theorem ok_edges {f fR fJ : Addr} {fd fdR fdJ : FuncData} {t1 : Tok} (F : Fun K "are_edges" "are_edges" sEdges f fd) (ml : mg "len" = none) (ma : mg "all" = none) (mset : mg "set" = none) (mM : mg "MOST_EDGES" = some (.int 18 t1))
    (mR : mg "is_row" = some (.ref fR)) (FR : FnOk P w K mg base CX0 1 fR fdR ["value"] spRow) (kR : PySem.W.keepIn K (.ref fR) = true) (bR : Binds K fdR ["value"] [])
    (mJ : mg "joins" = some (.ref fJ)) (FJ : FnOk P w K mg base CX0 2 fJ fdJ ["vertices", "value"] (spJoins K)) (kJ : PySem.W.keepIn K (.ref fJ) = true) (bJ : Binds K fdJ ["vertices", "value"] []) : FnOk P w K mg base CX0 3 f fd ["vertices", "value"] spEdges := by
  refine F.ok scEdges (fun vs H Q E h => ?_) (fun cdv A outer s H vs Q E hr h => ?_)
  · obtain ⟨a, b, ns, ks, rfl, _⟩ := h; rfl
  · obtain ⟨a, b, ns, ks, rfl, hA, hB, hat, hok, nd, h18, k⟩ := h
    have hr1 : Room 1 _ := hr.mono (by decide)
    refine ⟨_, pss_cons (ps_if (PW.pt (pw_or (pt_not (pt_val (pe_call FR hr1 rfl mR kR bR .nil pass0 (pa_cons (pv 1) pa_nil))))
        (pw_or1 (pt_cmpR op_gt (pe_callB call_len_seq (by rfl) ml PySem.boot_len (pa_cons (pv 1) pa_nil)) (pe_glob (v := .int 18) rfl mM ⟨_, rfl⟩) (nomark _)))))
        (pss_one (ps_ret pe_bl)) pss_nil)
      (pss_one (ps_ret (pe_and (pe_callB (cr_all rfl) (by rfl) ma (by decide +kernel) (pa_cons (pe_lc (own := [("edge", 2)]) (g := gName 2) (tt := tYes) rfl scEdges.nd (pi_seq (pv 1)) (blkOk_by (own := [("edge", 2)]) (N := ["vertices", "value", "edge"]) (sc := defScope sEdges) (by decide +kernel))
        (fun _ _ _ _ _ => pg_name (i := 2) scEdges.nd rfl (Or.inl rfl)) (fun _ _ _ _ _ => pts_nil) (fun _ _ _ _ _ => pe_call FJ hr rfl mJ kJ bJ .nil pass0 (pa_cons (pv 0) (pa_cons (pv 2) pa_nil)))) pa_nil))
        (pe_one (pe_cmpR op_eq (pe_lenSetP rfl (by rfl) ml (by rfl) mset hr.units (pv 1)) (pe_callB call_len_seq (by rfl) ml PySem.boot_len (pa_cons (pv 1) pa_nil)) (nomark _)))))), ?_⟩
    refine ⟨_, rfl, b, _, rfl, hB, fun H1 s1 => ⟨_, rfl, iteF ?_⟩⟩
    have hA1 := hA.same s1
    have hB1 := hB.same s1
    refine ⟨_, rfl, b, _, rfl, hB1.sq, _, _, rfl, rfl, _, rfl, ?_⟩
    rw [decide_eq_false (by rw [List.length_map]; omega)]
    refine iteF ?_
    refine ⟨_, rfl, b, _, rfl, hB1, fun J GG wk hG D hD => lc_it wk (fun i H' => H' D = some (.lst ((List.replicate i true).map V.bl)) ∧ Same H1 H') ⟨upd_same, Same.new hD⟩ (fun i H' _ ⟨_, s2⟩ => hG _ (hB1.eq s2)) ?_ ?_⟩
    · rintro i x H2 H2' hi0 ⟨e1, s2⟩ ⟨rfl, hi⟩
      have li : i < ks.length := by have := (List.getElem?_eq_some_iff.mp hi).1; rw [List.length_map] at this; exact this
      rw [List.getElem?_map, List.getElem?_eq_getElem li] at hi
      obtain rfl : V.ref ks[i].1 = x := Option.some.inj hi
      have mem := List.getElem_mem li
      obtain ⟨o1, o2, o3⟩ := hok _ mem
      refine ⟨rfl, _, rfl, _, rfl, a, ks[i].1, ns, ks[i].2.1, ks[i].2.2, rfl, (hA1.same s2).sq, s2 _ _ (s1 _ _ (hat _ mem)), _, e1, by rw [List.length_map, List.length_replicate, sizeLine_eq]; omega, ?_, Same.grow hD s2⟩
      rw [upd_same, List.replicate_succ', List.map_append, decide_eq_true o1, decide_eq_true o2, o3]; rfl
    · rintro H2 ⟨e1, s2⟩
      refine ⟨D, _, rfl, SqL.of e1, _, rfl, ?_⟩
      have e : (List.replicate (ks.map fun p => V.ref p.1).length true).all id = true := by simp
      rw [e]
      refine iteT ⟨_, rfl, b, ks.map (fun p => (p.1, [p.2.1, p.2.2])), rfl, ?_, ?_, by rw [List.length_map]; omega, fun n _ q => ⟨_, rfl, b, _, rfl, (hB1.same s2).sq, rfl, ?_⟩⟩
      · rw [List.map_map]; exact (hB1.same s2).sq
      · intro p hp
        obtain ⟨p0, hp0, rfl⟩ := List.mem_map.mp hp
        exact SqT.of (s2 _ _ (s1 _ _ (hat _ hp0)))
      · have nd2 : ((ks.map (fun p => (p.1, [p.2.1, p.2.2]))).map (·.2)).Nodup := by
          rw [List.map_map]
          have : ((fun x => x.2) ∘ fun p : Ed => (p.1, [p.2.1, p.2.2])) = (fun e : Str × Str => [e.1, e.2]) ∘ (fun p : Ed => p.2) := rfl
          rw [this, ← List.map_map]
          exact List.Pairwise.map _ (fun x y h e => h (by simp at e; exact Prod.ext e.1 e.2)) nd
        rw [q.mpr nd2, decide_eq_true (by simp)]
        exact k _ (s1.trans s2)
end
end CP
namespace CP
open PySem L2
/-! ### the order of edges -/
def encE (e : Str × Str) : PyData := .tuple [.str e.1, .str e.2]
def ltE (e f : Str × Str) : Bool := if e.1 = f.1 then (if e.2 = f.2 then false else ltS e.2 f.2) else ltS e.1 f.1
theorem eqv_str (x y : Str) : PyData.eqv (.str x) (.str y) = decide (x = y) := by
  simp only [PyData.eqv]
  by_cases h : x = y
  · subst h; simp
  · simp [h]
theorem dataLt_E (e f : Str × Str) : PySem.W.dataLt (encE e) (encE f) = ltE e f := by
  unfold encE ltE ltS
  rw [PySem.W.dataLt_pair (by simp [PySem.W.alike]) (by simp [PySem.W.alike]), eqv_str, eqv_str, PySem.W.dataLt_str, PySem.W.dataLt_str]
  by_cases h1 : e.1 = f.1 <;> by_cases h2 : e.2 = f.2 <;> simp [h1, h2]
theorem str_ext {x y : Str} (h : x.cps.toList = y.cps.toList) : x = y := PySem.W.str_of_cps h
theorem ltS_irrefl (x : Str) : ltS x x = false := by unfold ltS; exact decide_eq_false (List.lt_irrefl _)
theorem ltS_asymm {x y : Str} (h : ltS x y = true) : ltS y x = false := by
  unfold ltS at *
  exact decide_eq_false fun z => List.lt_irrefl _ (List.lt_trans (of_decide_eq_true h) z)
theorem ltS_total {x y : Str} (h : x ≠ y) (h2 : ltS x y = false) : ltS y x = true := by
  unfold ltS at *
  refine decide_eq_true ?_
  have n : ¬ x.cps.toList < y.cps.toList := of_decide_eq_false h2
  have le : y.cps.toList ≤ x.cps.toList := List.not_lt.mp n
  rcases List.le_iff_lt_or_eq.mp le with l | e
  · exact l
  · exact absurd (str_ext e.symm) h
theorem ltE_irrefl (e : Str × Str) : ltE e e = false := by simp [ltE]
theorem ltE_asymm {e f : Str × Str} (h : ltE e f = true) : ltE f e = false := by
  unfold ltE at *
  by_cases h1 : e.1 = f.1
  · rw [if_pos h1] at h; rw [if_pos h1.symm]
    by_cases h2 : e.2 = f.2
    · rw [if_pos h2] at h; cases h
    · rw [if_neg h2] at h; rw [if_neg fun z => h2 z.symm]; exact ltS_asymm h
  · rw [if_neg h1] at h; rw [if_neg fun z => h1 z.symm]; exact ltS_asymm h
theorem ltE_total {e f : Str × Str} (h : e ≠ f) (h2 : ltE e f = false) : ltE f e = true := by
  unfold ltE at *
  by_cases h1 : e.1 = f.1
  · rw [if_pos h1] at h2; rw [if_pos h1.symm]
    by_cases h3 : e.2 = f.2
    · exact absurd (Prod.ext h1 h3) h
    · rw [if_neg h3] at h2; rw [if_neg fun z => h3 z.symm]; exact ltS_total h3 h2
  · rw [if_neg h1] at h2; rw [if_neg fun z => h1 z.symm]; exact ltS_total h1 h2
def leD (p q : Ed) : Bool := PySem.W.dataLe false (fun p : Ed => encE p.2) p q
theorem leD_eq (p q : Ed) : leD p q = !ltE q.2 p.2 := by
  show (!PySem.W.dataLt (encE q.2) (encE p.2)) = _
  rw [dataLt_E]
theorem leD_total : PySem.W.TotalLe leD := by
  show PySem.W.TotalLe (PySem.W.dataLe false fun p : Ed => encE p.2)
  exact PySem.W.sortLe_total _ _ _
/-- the edges in ascending order -/
def sortE (ks : List Ed) : List Ed := ks.mergeSort leD
theorem sortE_perm (ks : List Ed) : (sortE ks).Perm ks := List.mergeSort_perm ks leD
theorem sortE_lt {ks : List Ed} (nd : (ks.map (·.2)).Nodup) : (sortE ks).Pairwise (fun p q => ltE p.2 q.2 = true) := by
  have h1 := PySem.W.sort_pairwise leD_total ks
  have h2 : ((sortE ks).map (·.2)).Nodup := ((sortE_perm ks).map _).nodup_iff.mpr nd
  rw [List.nodup_iff_pairwise_ne, List.pairwise_map] at h2
  refine (h1.and h2).imp fun {p q} ⟨a, b⟩ => ?_
  rw [leD_eq] at a
  have a' : ltE q.2 p.2 = false := by simpa using a
  exact ltE_total (fun z => b z.symm) a'
/-- a sorted arrangement is the one -/
theorem asc_unique : ∀ {l m : List Ed}, l.Perm m → l.Pairwise (fun p q => ltE p.2 q.2 = true) → m.Pairwise (fun p q => ltE p.2 q.2 = true) → l = m
  | [], m, h, _, _ => h.nil_eq
  | p :: l, [], h, _, _ => absurd h.length_eq (by simp)
  | p :: l, q :: m, h, h1, h2 => by
    have e : p = q := by
      by_cases c : p = q
      · exact c
      · have a : p ∈ m := by
          have := h.mem_iff.mp (List.mem_cons_self (a := p) (l := l))
          rcases List.mem_cons.mp this with z | z
          · exact absurd z c
          · exact z
        have b : q ∈ l := by
          have := h.mem_iff.mpr (List.mem_cons_self (a := q) (l := m))
          rcases List.mem_cons.mp this with z | z
          · exact absurd z.symm c
          · exact z
        have u := (List.pairwise_cons.mp h1).1 q b
        have v := (List.pairwise_cons.mp h2).1 p a
        rw [ltE_asymm u] at v; cases v
    subst e
    rw [asc_unique (List.Perm.cons_inv h) (List.pairwise_cons.mp h1).2 (List.pairwise_cons.mp h2).2]
section
variable {X : Cx}
def rSortE : List V → Hp → VK → Prop := fun vs H Q => ∃ (a : Addr) (ks : List Ed), vs = [V.ref a] ∧ H a = some (.lst (ks.map fun p => V.ref p.1)) ∧ (∀ p ∈ ks, EdAt H p) ∧ ks.length < 1000 ∧
  ∀ p, H p = none → Q (.ref p) (L2.upd H p (.lst ((sortE ks).map fun p => V.ref p.1)))
theorem each_refs : ∀ {ks : List Ed} {us : List Value}, PySem.W.EachIs (fun v (p : Ed) => v = Value.ref p.1) us ks → us = ks.map fun p => Value.ref p.1
  | [], _, .nil => rfl
  | p :: ks, _, .cons h t => by rw [h, each_refs t]; rfl
theorem refs_each : ∀ ks : List Ed, PySem.W.EachIs (fun v (p : Ed) => v = Value.ref p.1) (ks.map fun p => Value.ref p.1) ks
  | [] => .nil
  | p :: ks => .cons rfl (refs_each ks)
theorem vals_refs : ∀ ks : List Ed, Vals (ks.map fun p => V.ref p.1) (ks.map fun p => Value.ref p.1)
  | [] => .nil
  | p :: ks => .cons rfl (vals_refs ks)
theorem dp_edge {K : PySem.W.Frag} {H : Hp} {p : Ed} (h : EdAt H p) : Dp K H (.ref p.1) (encE p.2) := .tup (SqT.of h) (.cons (.str _) (.cons (.str _) .nil))
theorem reads_each {pins : List (Addr × Obj)} {σ : L2.St} {H : Hp} {s : Shared} (I : L2.Inv X pins σ H s) : ∀ {ks : List Ed}, (∀ p ∈ ks, EdAt H p) → PySem.W.EachIs (fun v (p : Ed) => ∃ as, Reads s.heap v (encE p.2) as) (ks.map fun p => Value.ref p.1) ks
  | [], _ => .nil
  | p :: ks, h => .cons (Dp.reads I _ _ _ (dp_edge (h p List.mem_cons_self)) rfl) (reads_each I fun q hq => h q (List.mem_cons_of_mem _ hq))
theorem cr_sortE (hu : X.A.units + 64 < cLine) : CallR X (.builtin "sorted") rSortE := by
  intro pins s σ H vs us Q I r h
  obtain ⟨a, ks, rfl, hA, hat, few, k⟩ := h
  obtain ⟨its, rv, pl, _⟩ := I.list (SqL.of hA)
  rw [Vals.ref1 r]
  have ei := refs_only (κ := Str × Str) rv
  subst ei
  refine PySem.W.sorted_data (β := Ed) (R := fun v p => v = Value.ref p.1) (enc := fun p => encE p.2) pl.isList (refs_each ks) (reads_each I hat) (PySem.W.AllAlike.of fun b b' => by simp [encE, PySem.W.alike, PySem.W.alikeAll]) (PySem.W.Sortable.tuples fun b => ⟨_, _, rfl⟩) (by rw [sizeLine_eq]; omega)
    (fun b _ => by simp [encE, PyData.depth, PyData.depthAll]; omega) fun out hl e => ?_
  have eo : out = (sortE ks).map fun p => Value.ref p.1 := each_refs e
  subst eo
  obtain ⟨ep, he⟩ := PyProof.Rows.sortedAll_at s.heap (ks.map fun p => Value.ref p.1) ((sortE ks).map fun p => Value.ref p.1).toArray
  have len : ((sortE ks).map fun p => V.ref p.1).length ≤ sizeLine := by rw [List.length_map, (sortE_perm ks).length_eq, sizeLine_eq]; omega
  exact ⟨.ref _, L2.upd H (s.heap.objs.size + 1) (.lst ((sortE ks).map fun p => V.ref p.1)), I.laid (t' := s.toks) (fun _ _ => PyProof.Rows.sortedAll_old) (Nat.le_succ _) ⟨len, _, ep, vals_refs _, he⟩, rfl, k _ (I.hok.fresh (Nat.le_succ _))⟩
/-- sorted(a list or a tuple of edges) -/
def rSortER : List V → Hp → VK → Prop := fun vs H Q => ∃ (a : Addr) (ks : List Ed), vs = [V.ref a] ∧ RowAt H a (ks.map fun p => V.ref p.1) ∧ (∀ p ∈ ks, EdAt H p) ∧ ks.length < 1000 ∧
  ∀ p, H p = none → Q (.ref p) (L2.upd H p (.lst ((sortE ks).map fun p => V.ref p.1)))
theorem cr_sortER (hu : X.A.units + 64 < cLine) : CallR X (.builtin "sorted") rSortER := by
  intro pins s σ H vs us Q I r h
  obtain ⟨a, ks, rfl, hA, hat, few, k⟩ := h
  rcases hA with hA | hA
  · exact cr_sortE hu pins s σ H _ us Q I r ⟨a, ks, rfl, hA, hat, few, k⟩
  obtain ⟨its, rv, pl, _⟩ := I.tuple (SqT.of hA)
  rw [Vals.ref1 r]
  have ei := refs_only (κ := Str × Str) rv
  subst ei
  refine sorted_dataT (β := Ed) (R := fun v p => v = Value.ref p.1) (enc := fun p => encE p.2) pl (refs_each ks) (reads_each I hat) (PySem.W.AllAlike.of fun b b' => by simp [encE, PySem.W.alike, PySem.W.alikeAll]) (PySem.W.Sortable.tuples fun b => ⟨_, _, rfl⟩) (by rw [sizeLine_eq]; omega)
    (fun b _ => by simp [encE, PyData.depth, PyData.depthAll]; omega) fun out hl e => ?_
  have eo : out = (sortE ks).map fun p => Value.ref p.1 := each_refs e
  subst eo
  obtain ⟨ep, he⟩ := PyProof.Rows.sortedAll_at s.heap (ks.map fun p => Value.ref p.1) ((sortE ks).map fun p => Value.ref p.1).toArray
  have len : ((sortE ks).map fun p => V.ref p.1).length ≤ sizeLine := by rw [List.length_map, (sortE_perm ks).length_eq, sizeLine_eq]; omega
  exact ⟨.ref _, L2.upd H (s.heap.objs.size + 1) (.lst ((sortE ks).map fun p => V.ref p.1)), I.laid (t' := s.toks) (fun _ _ => PyProof.Rows.sortedAll_old) (Nat.le_succ _) ⟨len, _, ep, vals_refs _, he⟩, rfl, k _ (I.hok.fresh (Nat.le_succ _))⟩
def rLtE : R2 := fun x y H Q => ∃ p q : Ed, x = .ref p.1 ∧ y = .ref q.1 ∧ EdAt H p ∧ EdAt H q ∧ Q (.bl (ltE p.2 q.2)) H
theorem op_ltE (hu : X.A.units + 64 < cLine) : OpR X (compareOp .Lt) rLtE := by
  intro pins s σ H x y v u Q I rx ry h
  obtain ⟨p, q, rfl, rfl, hp, hq, k⟩ := h
  obtain ⟨as, r1⟩ := Dp.reads I (encE p.2) _ v (dp_edge hp) rx
  obtain ⟨bs, r2⟩ := Dp.reads I (encE q.2) _ u (dp_edge hq) ry
  have c := PySem.W.rcLt_alike (encE p.2) (encE q.2) X.A s v u as bs r1 r2 (by simp [encE, PySem.W.alike, PySem.W.alikeAll]) (by simp [encE]) (by simp [encE, PyData.depth, PyData.depthAll]; omega)
  rw [dataLt_E] at c
  exact c _ _ _ _ ⟨.bl _, H, I, rfl, k⟩
end
end CP
namespace CP
open PySem L2
open AutoSeq1 (wpAny_loadPart')
/-! ### enumerate(t), t a tuple -/
theorem new_enumT (l : Addr) (items : Array Value) (n : Nat) (dct : Option Addr) (sl : Array (Option Value)) :
    Meets (Builtin.«enumerate.__new__» ⟨[.type "enumerate", .ref l], []⟩) (fun _ R s => s.heap.get? l = some { cls := .type "tuple", dict := dct, data := .seq items n, slots := sl } ∧
      R (.ok (.ret (.ref (s.heap.push { cls := .type "tuple_iterator", data := .fields #[.ref l, .int 0 0] }).objs.size)))
        { s with heap := (s.heap.push { cls := .type "tuple_iterator", data := .fields #[.ref l, .int 0 0] }).push { cls := .type "enumerate", data := .fields #[.none, .bool false, .ref s.heap.objs.size, rawInt 0, .none, .none] } }) :=
  .of_wp fun prog w A R s h => by
    obtain ⟨hp, g, d, tk, os⟩ := s; obtain ⟨hl, h⟩ := h
    have m1 := sub_enumerate
    have hT : Heap.IsTuple (Shared.heap ⟨hp, g, d, tk, os⟩) l items := ⟨_, hl, rfl, n, rfl⟩
    wp_walk using wpAny_loadPart' hl
    refine wpAny_stack_any fun st => wpAny_pure ?_
    split
    · rename_i c _ _ _ _ _
      cases (c == Value.type "enumerate") <;> (wp_walk using wpAny_loadPart' hl, wpAny_pyIter_tuple hT; exact ⟨_, rfl, h⟩)
    · wp_walk using wpAny_loadPart' hl, wpAny_pyIter_tuple hT
      exact ⟨_, rfl, h⟩
section
variable {prog : Program} {w : World} {A : Around} {E : Value → Shared → Prop} {s : Shared}
abbrev tupIt (l : Addr) : Obj := { cls := .type "tuple_iterator", data := .fields #[.ref l, .int 0 0] }
abbrev enumOb (it : Addr) : Obj := { cls := .type "enumerate", data := .fields #[.none, .bool false, .ref it, rawInt 0, .none, .none] }
theorem call_enumT {l : Addr} {items : Array Value} {Q : Value → Shared → Prop} (hT : s.heap.IsTuple l items)
    (h : ∀ h', IsEnum h' (s.heap.objs.size + 1) s.heap.objs.size 0 .none → h'.IsTupleIter s.heap.objs.size l 0 → (∀ b o, s.heap.get? b = some o → h'.get? b = some o) → Q (.ref (s.heap.objs.size + 1)) { s with heap := h' }) :
    wpAny (model prog w) A (call (.type "enumerate") [.ref l]) Q E s := by
  obtain ⟨⟨c, dct, dt, sl⟩, hl, hc, n, hd⟩ := hT
  simp only at hc hd
  subst hc hd
  refine callType_new F.called_enumerate (by decide) (F.typeCall_enumerate_1 _) (F.newCall_enumerate_1 _) (fun obj => F.args_object_init_2 obj _) F.entry_enumerate_new (new_enumT l items n dct sl) ⟨hl, ?_⟩
  have hz : (s.heap.push (tupIt l)).objs.size = s.heap.objs.size + 1 := Heap.size_push ..
  show _ ∧ _
  rw [hz]
  have he : IsEnum ((s.heap.push (tupIt l)).push (enumOb s.heap.objs.size)) (s.heap.objs.size + 1) s.heap.objs.size 0 .none := by
    have q := Heap.get?_push_size (s.heap.push (tupIt l)) (o := enumOb s.heap.objs.size) rfl
    rw [hz] at q; exact q
  exact ⟨⟨_, he, rfl⟩, h _ he ⟨_, Heap.get?_push_of_some _ (Heap.get?_push_size _ rfl), rfl, rfl⟩ fun b o x => Heap.get?_push_of_some _ (Heap.get?_push_of_some _ x)⟩
end
def ItT (K : PySem.W.Frag) (a : Addr) : It :=
  ⟨fun i H => ∃ (xs : List V) (x : V), SqT K H a xs ∧ xs[i]? = some x, fun i H v H' => ∃ T x, v = .ref T ∧ H T = none ∧ H' = L2.upd H T (.tup [.int (i : Nat), x]) ∧ ∀ xs, SqT K H a xs → xs[i]? = some x, fun i H => ∃ xs : List V, SqT K H a xs ∧ xs.length = i⟩
theorem walk_enumT {K : PySem.W.Frag} {a : Addr} {xs : List V} : Walk (ItT K a) xs.length (fun H => SqT K H a xs) (YPair (fun i => some (.int (i : Nat))) (fun i => xs[i]?)) := by
  refine ⟨fun i _ hi q => ⟨xs, xs[i], q, by simp [hi]⟩, fun _ q => ⟨xs, q, rfl⟩, fun i H v H' _ q y => ?_⟩
  obtain ⟨T, x, h1, h2, h3, h4⟩ := y
  exact ⟨T, _, x, h1, h2, h3, rfl, h4 xs q⟩
theorem turn_enumT {P : Program} {w : World} {K : PySem.W.Frag} {elts : List Expr} {kk : Nat} {tpos : Pos} (a e it : Addr) :
    Turn P w K (.Tuple elts kk tpos) (ItT K a) [e, it] e (fun i h => (∃ old, IsEnum h e it ((i : Nat) : Int) old) ∧ h.IsTupleIter it a i ∧ e ≠ it) where
  mem := by simp
  obj := fun i h ⟨⟨old, he⟩, ⟨o, ho, hc, hd⟩, _⟩ b hb => by
    rcases (show b = e ∨ b = it by simpa using hb) with rfl | rfl
    · exact ⟨_, he, fun v q => nomatch q⟩
    · exact ⟨o, ho, fun v q => by rw [hd] at q; cases q⟩
  keep := fun i h h' ⟨⟨old, he⟩, hi, hne⟩ k => ⟨⟨old, k e (by simp) _ he⟩, hi.at fun o q => k it (by simp) o q, hne⟩
  item := by
    intro X hP hw hK hc i pins s σ H E I hf ⟨⟨old, he⟩, hit, hne⟩ ⟨xs, x, hq, hx⟩
    subst hP hw hK
    obtain ⟨its, rv, p, hz⟩ := I.tuple hq
    obtain ⟨u, hu, ru⟩ := rv.get hx
    have hel : e < s.heap.objs.size := Heap.lt_size he
    have hil : it < s.heap.objs.size := by obtain ⟨_, q, _⟩ := hit; exact Heap.lt_size q
    have ea : e ≠ a := fun z => by
      obtain ⟨o, ho, hc2, _⟩ := p
      rw [← z, he] at ho; cases ho; injection hc2 with hc2; exact absurd hc2 (by decide)
    have ia : a ≠ it := fun z => by
      obtain ⟨o, ho, hc2, _⟩ := p
      obtain ⟨o2, ho2, hc3, _⟩ := hit
      rw [z, ho2] at ho; cases ho; rw [hc3] at hc2; injection hc2 with hc2; exact absurd hc2 (by decide)
    have hiu : its.toArray[i]? = some u := by simpa using hu
    have li : i < its.toArray.size := (Array.getElem?_eq_some_iff.mp hiu).1
    refine wpAny_pyNext_enum_itemD (Draws.tuple (A := X.A.in1) (by simp [I.ok.hd hc]) it a ia its.toArray) he ⟨hit, p⟩ li hne (by simp [hne, ea]) fun x' h' tk px ho st' hT hsz hk => ?_
    obtain rfl : x' = u := Option.some.inj (px.symm.trans hiu)
    refine ⟨_, rfl, wpAny_letOwnedTupleGo_enum (s := { s with heap := h', toks := tk + 1 }) ho fun h'' he' sb => ?_⟩
    have hT2 : h''.get? s.heap.objs.size = some { cls := .type "tuple", data := .seq #[.int i tk, x'] } := (sb.2 _ (Nat.ne_of_gt hel)).trans hT
    have new : ObjOk X.prog X.w (L2.upd H s.heap.objs.size (.tup [.int (i : Nat), x])) h'' s.heap.objs.size (.tup [.int (i : Nat), x]) :=
      ⟨by show 2 ≤ sizeLine; decide, [.int i tk, x'], .cons ⟨_, rfl⟩ (.cons ru .nil), ⟨_, hT2, rfl, _, rfl⟩⟩
    have I1 : L2.Inv X pins σ (L2.upd H s.heap.objs.size (.tup [.int (i : Nat), x])) { s with heap := h'', toks := tk + 1 } :=
      I.turnedNew (ch := [e, it]) (fun b ob hb q => (sb.2 b (fun z => hb (by simp [z]))).trans (hk b ob (fun z => hb (by simp [z])) (fun z => hb (by simp [z])) q)) hf (Nat.le_refl _) new
    refine ⟨.ref s.heap.objs.size, _, I1, rfl, ⟨_, x, rfl, I.hok.fresh (Nat.le_refl _), rfl, fun ys hy => by rw [I.tuple_inj hy hq]; exact hx⟩, ⟨⟨x', ?_⟩, st'.1.at fun o q => (sb.2 it (Ne.symm hne)).trans q, hne⟩, fun b hb => ?_⟩
    · rw [show ((i + 1 : Nat) : Int) = (i : Int) + 1 by omega]; exact he'
    · have hb' : b < s.heap.objs.size := by
        rcases (show b = e ∨ b = it by simpa using hb) with rfl | rfl
        · exact hel
        · exact hil
      rw [upd_ne (Nat.ne_of_lt hb')]
      exact (hf b hb).1
  done := by
    intro X hP hw hK hc i pins s σ H E I hf ⟨⟨old, he⟩, hit, hne⟩ ⟨xs, hq, hx⟩
    subst hP hw hK
    obtain ⟨its, rv, p, hz⟩ := I.tuple hq
    obtain ⟨f0, f1, f2, f3, f4, f5⟩ := hf it (by simp)
    have hl := rv.length
    have ia : a ≠ it := fun z => by
      obtain ⟨o, ho, hc2, _⟩ := p
      obtain ⟨o2, ho2, hc3, _⟩ := hit
      rw [z, ho2] at ho; cases ho; rw [hc3] at hc2; injection hc2 with hc2; exact absurd hc2 (by decide)
    have ei : i = its.toArray.size := by rw [List.size_toArray]; omega
    rw [ei] at hit
    exact wpAny_pyNext_enum_endD (Draws.tuple (A := X.A.in1) (by simp [I.ok.hd hc]) it a ia its.toArray) he ⟨hit, p⟩ fun h' eb => ⟨rfl, I.turned (t' := s.toks) (fun b o hb q => eb b o hb q) f0 f1 f3 f4 f5⟩
  self := fun A i s Q E ⟨⟨_, he⟩, _⟩ h => wpAny_pyIter_enum he h
def iEnumT (K : PySem.W.Frag) (ta : TA) : TI := fun σ H R => ta σ H fun vs H1 => ∃ a xs, vs = [.ref a] ∧ SqT K H1 a xs ∧ R (ItT K a) H1
theorem pi_enumT {X : Cx} {e : Expr} {ta : TA} {p pos tpos : Pos} {elts : List Expr} {kk : Nat} (hg : Gl X "enumerate") (hm : X.mg "enumerate" = none) (ha : PA X [e] ta) (hs : starEach [e] X.env = [(false, eval e X.env)] := by rfl) :
    PI X (.Tuple elts kk tpos) (.Call (.Name "enumerate" p) [e] [] pos) (iEnumT X.K ta) := by
  refine ⟨fun pins s σ H R I h => ?_⟩
  refine PyProof.Rows.Call_ (ld_blt I hg hm PyProof.Rows.boot_enumerate (PyProof.Rows.callWith_type1 (thn (ha.run pos pins s σ H _ I h) fun us s1 ⟨vs, H1, I1, r1, a, xs, ex, hq, q⟩ => ?_) hs rfl))
  subst ex
  rw [Vals.ref1 r1]
  obtain ⟨its, rv, p', hz⟩ := I1.tuple hq
  refine call_enumT (items := its.toArray) p' fun h' he hit hk => wpAny_pyIter_enum he ?_
  have I2 : L2.Inv X pins σ H1 { s1 with heap := h' } := I1.kept (t' := s1.toks) hk
  refine ⟨s1.heap.objs.size + 1, [s1.heap.objs.size + 1, s1.heap.objs.size], _, _, H1, rfl, I2, turn_enumT a (s1.heap.objs.size + 1) s1.heap.objs.size, ⟨⟨.none, he⟩, hit, Nat.succ_ne_self _⟩, fun b hb => ?_, q⟩
  have hle : s1.heap.objs.size ≤ b := by
    rcases (show b = s1.heap.objs.size + 1 ∨ b = s1.heap.objs.size by simpa using hb) with z | z
    · rw [z]; exact Nat.le_add_right _ _
    · rw [z]; exact Nat.le_refl _
  exact I1.fpOk hle (I1.hok.fresh hle)
end CP
namespace CP
open PySem L2
/-! ### a Graph: its two fields -/
theorem ve : ¬ (("vertices" : Str) = "edges") := by decide +kernel
def gf (a b : Addr) : List (Str × V) := putF "edges" (.ref b) (putF "vertices" (.ref a) [])
theorem gf_eq (a b : Addr) : gf a b = ([("vertices", V.ref a), ("edges", V.ref b)] : List (Str × V)) := by
  show (if ("vertices" : Str) = "edges" then [(("vertices" : Str), V.ref b)] else (("vertices" : Str), V.ref a) :: putF "edges" (V.ref b) []) = _
  rw [if_neg ve]
  all_goals rfl
theorem gf_v (a b : Addr) : (gf a b).lookup ("vertices" : Str) = some (.ref a) := by
  unfold gf; rw [lookup_putF, if_neg ve, lookup_putF, if_pos rfl]
theorem gf_e (a b : Addr) : (gf a b).lookup ("edges" : Str) = some (.ref b) := by
  unfold gf; rw [lookup_putF, if_pos rfl]
/-- at g a Graph of the class C with these names and these edges -/
structure GrAt (C : Addr) (H : Hp) (g : Addr) (ns : List Str) (es : List Ed) : Prop where
  ob : ∃ dx t1 t2, H g = some (.ins C dx (gf t1 t2)) ∧ H t1 = some (.tup (ns.map V.str)) ∧ H t2 = some (.tup (es.map fun p => V.ref p.1))
  ed : ∀ p ∈ es, EdAt H p
theorem GrAt.same {C : Addr} {H H' : Hp} {g : Addr} {ns : List Str} {es : List Ed} (G : GrAt C H g ns es) (s : Same H H') : GrAt C H' g ns es := by
  obtain ⟨⟨dx, t1, t2, a, b, c⟩, e⟩ := G
  exact ⟨⟨dx, t1, t2, s _ _ a, s _ _ b, s _ _ c⟩, fun p hp => s _ _ (e p hp)⟩
/-- the same where each row may be a tuple -/
structure ArgsR (H : Hp) (a b : Addr) (ns : List Str) (ks : List Ed) : Prop where
  na : RowAt H a (ns.map V.str)
  n0 : 0 < ns.length
  n8 : ns.length ≤ 8
  nd : ns.Nodup
  nm : ∀ z ∈ ns, NameOk z
  ea : RowAt H b (ks.map fun p => V.ref p.1)
  ed : ∀ p ∈ ks, EdAt H p
  eo : ∀ p ∈ ks, EdOk ns p.2
  en : (ks.map (·.2)).Nodup
  el : ks.length ≤ 18
structure ArgsOk (H : Hp) (a b : Addr) (ns : List Str) (ks : List Ed) : Prop where
  na : H a = some (.lst (ns.map V.str))
  n0 : 0 < ns.length
  n8 : ns.length ≤ 8
  nd : ns.Nodup
  nm : ∀ z ∈ ns, NameOk z
  ea : H b = some (.lst (ks.map fun p => V.ref p.1))
  ed : ∀ p ∈ ks, EdAt H p
  eo : ∀ p ∈ ks, EdOk ns p.2
  en : (ks.map (·.2)).Nodup
  el : ks.length ≤ 18
theorem ArgsOk.row {H : Hp} {a b : Addr} {ns : List Str} {ks : List Ed} (A : ArgsOk H a b ns ks) : ArgsR H a b ns ks := ⟨.inl A.na, A.n0, A.n8, A.nd, A.nm, .inl A.ea, A.ed, A.eo, A.en, A.el⟩
theorem ArgsR.same {H H' : Hp} {a b : Addr} {ns : List Str} {ks : List Ed} (A : ArgsR H a b ns ks) (s : Same H H') : ArgsR H' a b ns ks := ⟨A.na.same s, A.n0, A.n8, A.nd, A.nm, A.ea.same s, fun p hp => s _ _ (A.ed p hp), A.eo, A.en, A.el⟩
def spInit (C : Addr) : Sp := fun vs H Q _ => ∃ (g dx a b : Addr) (ns : List Str) (ks : List Ed), vs = [.ref g, .ref a, .ref b] ∧ H g = some (.ins C dx []) ∧ ArgsR H a b ns ks ∧
  ∀ H', GrAt C H' g ns (sortE ks) → (∀ c o, c ≠ g → H c = some o → H' c = some o) → Q .non H'
structure GTxt (K : PySem.W.Frag) (mg : Str → Option Value) (C : Addr) : Prop where
  cl : Cls K C
  nV : NoAttr K C "vertices"
  nE : NoAttr K C "edges"
  mg : mg "Graph" = some (.ref C)
section
variable {P : Program} {w : World} {K : PySem.W.Frag} {mg : Str → Option Value} {base : Heap}
theorem scInit : FnScope ["self", "vertices", "edges"] ["self", "vertices", "edges"] (defScope sInit) := ⟨rfl, rfl, rfl, by decide +kernel, rfl, by decide +kernel, by decide +kernel⟩
/-- tuple(a list or a tuple) -/
def rTupR : List V → Hp → VK → Prop := fun xs H Q => ∃ p ys, xs = [.ref p] ∧ RowAt H p ys ∧ ∀ t H', Same H H' → H' t = some (.tup ys) → Q (.ref t) H'
theorem call_tupR {X : Cx} : CallR X (.type "tuple") rTupR := by
  intro pins s σ H xs us Q I r ⟨p, ys, e, a, k⟩
  rcases a with a | a
  · exact call_tuple_of pins s σ H xs us Q I r ⟨p, ys, e, .inl ⟨SqL.of a, fun t ht => k t _ (Same.new ht) upd_same⟩⟩
  · exact call_tuple_of pins s σ H xs us Q I r ⟨p, ys, e, .inr ⟨SqT.of a, k p H (Same.refl _) a⟩⟩
theorem ok_init {f fV fE C : Addr} {fd fdV fdE : FuncData} (F : Fun K "__init__" "Graph.__init__" sInit f fd) (T : GTxt K mg C) (mt : mg "tuple" = none) (ms : mg "sorted" = none)
    (mV : mg "are_vertices" = some (.ref fV)) (FV : FnOk P w K mg base CX0 2 fV fdV ["value"] spVerts) (kV : PySem.W.keepIn K (.ref fV) = true) (bV : Binds K fdV ["value"] [])
    (mE : mg "are_edges" = some (.ref fE)) (FE : FnOk P w K mg base CX0 3 fE fdE ["vertices", "value"] spEdges) (kE : PySem.W.keepIn K (.ref fE) = true) (bE : Binds K fdE ["vertices", "value"] []) :
    FnOk P w K mg base CX0 4 f fd ["self", "vertices", "edges"] (spInit C) := by
  refine F.ok scInit (fun vs H Q E h => ?_) (fun cdv A outer s H vs Q E hr h => ?_)
  · obtain ⟨g, dx, a, b, ns, ks, rfl, _⟩ := h; rfl
  · obtain ⟨g, dx, a, b, ns, ks, rfl, hg, ⟨na, n0, n8, nd, nm, ea, ed, eo, en, el⟩, k⟩ := h
    have hr2 : Room 2 _ := hr.mono (by decide)
    refine ⟨_, pss_cons (ps_if (pt_not (pt_val (pe_call FV hr2 rfl mV kV bV .nil pass0 (pa_cons (pv 1) pa_nil)))) pss_never pss_nil)
      (pss_cons (ps_if (pt_not (pt_val (pe_call FE hr rfl mE kE bE .nil pass0 (pa_cons (pv 1) (pa_cons (pv 2) pa_nil))))) pss_never pss_nil)
      (pss_cons (ps_fld (pv 0) (pe_callTy call_tupR (by rfl) mt (by decide +kernel) (pa_cons (pv 1) pa_nil)) rfl)
      (pss_one (ps_fld (pv 0) (pe_callTy call_tupR (by rfl) mt (by decide +kernel) (pa_cons (pe_callB (cr_sortER hr.units) (by rfl) ms (by decide +kernel) (pa_cons (pv 2) pa_nil)) pa_nil)) rfl)))), ?_⟩
    refine ⟨_, rfl, a, ns, rfl, na, n0, n8, nd, nm, fun H1 s1 => ⟨_, rfl, iteF ?_⟩⟩
    refine ⟨_, rfl, _, rfl, a, b, ns, ks, rfl, na.same s1, ea.same s1, fun p hp => s1 _ _ (ed p hp), eo, en, el, fun H2 s2 => ⟨_, rfl, iteF ?_⟩⟩
    have s12 := s1.trans s2
    refine ⟨_, rfl, a, _, rfl, na.same s12, fun t1 H3 s23 h1 => ?_⟩
    have s13 := s12.trans s23
    have g3 := s13 _ _ hg
    have gt1 : t1 ≠ g := ne_of h1 g3 (fun z => by cases z)
    refine ⟨_, rfl, g, C, dx, [], rfl, g3, T.cl, T.nV, by decide, ?_⟩
    have g4 : L2.upd H3 g (.ins C dx (putF "vertices" (.ref t1) [])) g = some (.ins C dx (putF "vertices" (.ref t1) [])) := upd_same
    have t4 : L2.upd H3 g (.ins C dx (putF "vertices" (.ref t1) [])) t1 = some (.tup (ns.map V.str)) := by rw [upd_ne gt1]; exact h1
    have old4 : ∀ {c : Addr} {o : HO}, c ≠ g → H c = some o → L2.upd H3 g (.ins C dx (putF "vertices" (.ref t1) [])) c = some o := fun n e => by rw [upd_ne n]; exact s13 _ _ e
    generalize L2.upd H3 g (.ins C dx (putF "vertices" (.ref t1) [])) = H4 at g4 t4 old4 ⊢
    have nin : ∀ {c : Addr} {xs : List V}, H c = some (.lst xs) → c ≠ g := fun e => ne_of e hg (fun z => by cases z)
    have nit : ∀ {c : Addr} {xs : List V}, H c = some (.tup xs) → c ≠ g := fun e => ne_of e hg (fun z => by cases z)
    have ea4 : RowAt H4 b (ks.map fun p => V.ref p.1) := ea.imp (fun e => old4 (nin e) e) (fun e => old4 (nit e) e)
    refine ⟨_, rfl, b, ks, rfl, ea4, fun p hp => old4 (nit (ed p hp)) (ed p hp), by omega, fun l hl => ?_⟩
    have s45 : Same H4 (L2.upd H4 l (.lst ((sortE ks).map fun p => V.ref p.1))) := Same.new hl
    have e5 : L2.upd H4 l (.lst ((sortE ks).map fun p => V.ref p.1)) l = some (.lst ((sortE ks).map fun p => V.ref p.1)) := upd_same
    generalize L2.upd H4 l (.lst ((sortE ks).map fun p => V.ref p.1)) = H5 at s45 e5 ⊢
    refine ⟨l, _, rfl, .inl e5, fun t2 H6 s56 h2 => ?_⟩
    have s46 := s45.trans s56
    have g6 := s46 _ _ g4
    have gt2 : t2 ≠ g := ne_of h2 g6 (fun z => by cases z)
    refine ⟨_, rfl, g, C, dx, _, rfl, g6, T.cl, T.nE, (by show 1 < 1000; decide), ?_⟩
    have all : ∀ {c : Addr} {o : HO}, c ≠ g → H c = some o → L2.upd H6 g (.ins C dx (putF "edges" (.ref t2) (putF "vertices" (.ref t1) []))) c = some o := fun {c o} n e => by
      rw [upd_ne n]; exact s46 _ _ (old4 n e)
    refine k _ ⟨⟨dx, t1, t2, upd_same, ?_, ?_⟩, fun p hp => all (nit (ed p ((sortE_perm ks).mem_iff.mp hp))) (ed p ((sortE_perm ks).mem_iff.mp hp))⟩ fun c o n e => all n e
    · rw [upd_ne gt1]; exact s46 _ _ t4
    · rw [upd_ne gt2]; exact h2
end
end CP
namespace CP
open PySem L2
abbrev E2 := Str × Str
/-- no common end -/
def apB (e f : E2) : Bool := decide (e.1 ≠ f.1 ∧ e.1 ≠ f.2 ∧ e.2 ≠ f.1 ∧ e.2 ≠ f.2)
/-- the pairs of the i-th edge and the later ones -/
def rowP (es : List E2) (i : Nat) : List (E2 × E2) := match es[i]? with
  | none => []
  | some e => ((es.drop (i + 1)).filter (apB e)).map fun f => (e, f)
/-- the rows of the first n edges -/
def upTo (r : Nat → List (E2 × E2)) : Nat → List (E2 × E2)
  | 0 => []
  | n + 1 => upTo r n ++ r n
def pairsOf (es : List E2) : List (E2 × E2) := upTo (rowP es) es.length
/-- a pair as a tracked tuple of two tracked edges -/
abbrev Pr := Addr × (Ed × Ed)
structure PrAt (H : Hp) (q : Pr) : Prop where
  ob : H q.1 = some (.tup [.ref q.2.1.1, .ref q.2.2.1])
  one : EdAt H q.2.1
  two : EdAt H q.2.2
theorem PrAt.same {H H' : Hp} {q : Pr} (h : PrAt H q) (s : Same H H') : PrAt H' q := ⟨s _ _ h.ob, s _ _ h.one, s _ _ h.two⟩
def prV (q : Pr) : E2 × E2 := (q.2.1.2, q.2.2.2)
/-- at l a list of pairs worth ps -/
def PrsAt (H : Hp) (l : Addr) (ps : List (E2 × E2)) : Prop := ∃ qs : List Pr, H l = some (.lst (qs.map fun q => V.ref q.1)) ∧ (∀ q ∈ qs, PrAt H q) ∧ qs.map prV = ps
theorem PrsAt.nil {H : Hp} {l : Addr} (h : H l = some (.lst [])) : PrsAt H l [] := ⟨[], h, (fun _ z => nomatch z), rfl⟩
/-- the list at l is the one thing that may have changed -/
theorem PrsAt.kept {H H' : Hp} {l : Addr} {ps : List (E2 × E2)} (h : PrsAt H l ps) (s : Same H H') : PrsAt H' l ps := by
  obtain ⟨qs, a, b, c⟩ := h
  exact ⟨qs, s _ _ a, fun q hq => (b q hq).same s, c⟩
theorem EdAt.keepL {H : Hp} {l : Addr} {xs : List V} {o : HO} {p : Ed} (hl : H l = some (.lst xs)) (h : EdAt H p) : EdAt (L2.upd H l o) p := by
  unfold EdAt; rw [upd_ne (ne_of h hl (fun z => by cases z))]; exact h
theorem PrAt.keepL {H : Hp} {l : Addr} {xs : List V} {o : HO} {q : Pr} (hl : H l = some (.lst xs)) (h : PrAt H q) : PrAt (L2.upd H l o) q :=
  ⟨by rw [upd_ne (ne_of h.ob hl (fun z => by cases z))]; exact h.ob, h.one.keepL hl, h.two.keepL hl⟩
/-- one more pair: its tuple at t is new -/
theorem PrsAt.push {H : Hp} {l t : Addr} {ps : List (E2 × E2)} {p q : Ed} (h : PrsAt H l ps) (ht : H t = some (.tup [.ref p.1, .ref q.1])) (hp : EdAt H p) (hq : EdAt H q) : ∃ qs : List V, H l = some (.lst qs) ∧ qs.length = ps.length ∧ PrsAt (L2.upd H l (.lst (qs ++ [.ref t]))) l (ps ++ [(p.2, q.2)]) := by
  obtain ⟨qs, a, b, c⟩ := h
  refine ⟨_, a, by rw [List.length_map, ← c, List.length_map], qs ++ [(t, p, q)], ?_, fun r hr => ?_, ?_⟩
  · rw [upd_same, List.map_append]; rfl
  · rcases List.mem_append.mp hr with hr | hr
    · exact (b r hr).keepL a
    · rw [List.mem_singleton.mp hr]; exact PrAt.keepL a ⟨ht, hp, hq⟩
  · rw [List.map_append, c]; rfl
theorem cut_drop (xs : List V) (i : Nat) : cutV xs (some ((i : Int) + 1)) none = xs.drop (i + 1) := by
  have e : ((i : Int) + 1) = ((i + 1 : Nat) : Int) := by omega
  unfold cutV
  rw [e, HT.sIx_nat, HT.sIx_none]
  by_cases c : i + 1 ≤ xs.length
  · rw [Nat.min_eq_left c, List.take_of_length_le (by rw [List.length_drop]; exact Nat.le_refl _)]
  · rw [Nat.min_eq_right (by omega), List.drop_of_length_le (by omega : xs.length ≤ i + 1), List.drop_length]; simp
theorem row_len (es : List E2) (i : Nat) : (rowP es i).length ≤ es.length := by
  unfold rowP
  cases es[i]? with
  | none => exact Nat.zero_le _
  | some e =>
    show (((es.drop (i + 1)).filter (apB e)).map fun f => (e, f)).length ≤ _
    rw [List.length_map]
    exact Nat.le_trans (List.length_filter_le _ _) (by rw [List.length_drop]; omega)
theorem upTo_len {r : Nat → List (E2 × E2)} {m : Nat} (h : ∀ i, (r i).length ≤ m) : ∀ n, (upTo r n).length ≤ n * m
  | 0 => Nat.zero_le _
  | n + 1 => by
    show (upTo r n ++ r n).length ≤ _
    rw [List.length_append, Nat.succ_mul]
    exact Nat.add_le_add (upTo_len h n) (h n)
end CP
namespace CP
open PySem L2
theorem perm_map {α β : Type} {f : α → β} {l m : List β} (h : l.Perm m) : ∀ ks : List α, m = ks.map f → ∃ js : List α, js.Perm ks ∧ js.map f = l := by
  induction h with
  | nil => intro ks e; cases ks with | nil => exact ⟨[], .refl _, rfl⟩ | cons _ _ => cases e
  | @cons x l1 l2 _ ih =>
    intro ks e
    cases ks with
    | nil => cases e
    | cons k ks =>
      injection e with e1 e2
      obtain ⟨js, p, q⟩ := ih ks e2
      exact ⟨k :: js, p.cons k, by rw [List.map_cons, q, e1]⟩
  | swap x y l =>
    intro ks e
    match ks, e with
    | a :: b :: ks, e =>
      injection e with e1 e2; injection e2 with e2 e3
      exact ⟨b :: a :: ks, List.Perm.swap _ _ _, by rw [List.map_cons, List.map_cons, e1, e2, e3]⟩
    | [a], e => simp at e
    | [], e => simp at e
  | trans _ _ ih1 ih2 =>
    intro ks e
    obtain ⟨js, p, q⟩ := ih2 ks e
    obtain ⟨is, p2, q2⟩ := ih1 js q.symm
    exact ⟨is, p2.trans p, q2⟩
def base8 : List Str := ["a", "ab", "b", "x", "zzzzzzzz", "node", "k", "c"]
theorem base8_nd : base8.Nodup := by decide +kernel
instance (z : Str) : Decidable (NameOk z) := decidable_of_iff (0 < z.length ∧ z.length ≤ 8 ∧ ∀ c ∈ z.cps.toList, c ∈ letters.cps.toList) ⟨fun ⟨a, b, c⟩ => ⟨a, b, c⟩, fun ⟨a, b, c⟩ => ⟨a, b, c⟩⟩
theorem base8_ok : ∀ z ∈ base8, NameOk z := by decide +kernel
theorem letters_small : ∀ c ∈ letters.cps.toList, c < 0x110000 := by decide +kernel
theorem NameOk.strOk {z : Str} (h : NameOk z) : PyData.strOk z = true := by
  unfold PyData.strOk
  rw [← Array.all_toList, List.all_eq_true]
  intro c hc
  simpa using letters_small c (h.all c hc)
/-- the edges of one name -/
def rowE (ns : List Str) (i : Nat) : List E2 := match ns[i]? with
  | none => []
  | some n => (ns.filter (ltS n)).map fun m => (n, m)
def upE (r : Nat → List E2) : Nat → List E2
  | 0 => []
  | n + 1 => upE r n ++ r n
theorem rowE_mem {ns : List Str} {i : Nat} {e : E2} (h : e ∈ rowE ns i) : ns[i]? = some e.1 ∧ e.2 ∈ ns ∧ ltS e.1 e.2 = true := by
  unfold rowE at h
  cases q : ns[i]? with
  | none => rw [q] at h; cases h
  | some n =>
    rw [q] at h
    obtain ⟨m, hm, rfl⟩ := List.mem_map.mp h
    exact ⟨rfl, (List.mem_filter.mp hm).1, (List.mem_filter.mp hm).2⟩
theorem upE_mem {ns : List Str} : ∀ {n : Nat} {e : E2}, e ∈ upE (rowE ns) n → ∃ i, i < n ∧ e ∈ rowE ns i
  | 0, e, h => nomatch h
  | n + 1, e, h => by
    rcases List.mem_append.mp h with h | h
    · obtain ⟨i, a, b⟩ := upE_mem h; exact ⟨i, by omega, b⟩
    · exact ⟨n, by omega, h⟩
theorem upE_ok {ns : List Str} {n : Nat} {e : E2} (h : e ∈ upE (rowE ns) n) : EdOk ns e := by
  obtain ⟨i, _, h⟩ := upE_mem h
  obtain ⟨a, b, c⟩ := rowE_mem h
  exact ⟨List.mem_of_getElem? a, b, c⟩
theorem nodup_ne {α : Type} {l : List α} (nd : l.Nodup) {i j : Nat} {x : α} (hi : l[i]? = some x) (hj : l[j]? = some x) : i = j := by
  obtain ⟨a, e1⟩ := List.getElem?_eq_some_iff.mp hi
  obtain ⟨b, e2⟩ := List.getElem?_eq_some_iff.mp hj
  rcases Nat.lt_trichotomy i j with c | c | c
  · exact absurd (e1.trans e2.symm) ((List.pairwise_iff_getElem.mp nd) i j a b c)
  · exact c
  · exact absurd (e2.trans e1.symm) ((List.pairwise_iff_getElem.mp nd) j i b a c)
theorem rowE_nd {ns : List Str} (nd : ns.Nodup) (i : Nat) : (rowE ns i).Nodup := by
  unfold rowE
  cases ns[i]? with
  | none => exact List.nodup_nil
  | some n => exact List.Pairwise.map _ (fun x y h e => h (by injection e)) (nd.filter _)
theorem upE_nd {ns : List Str} (nd : ns.Nodup) : ∀ n, (upE (rowE ns) n).Nodup
  | 0 => List.nodup_nil
  | n + 1 => by
    refine List.nodup_append.mpr ⟨upE_nd nd n, rowE_nd nd n, fun x hx y hy e => ?_⟩
    subst e
    obtain ⟨i, hi, h⟩ := upE_mem hx
    have := nodup_ne nd (rowE_mem h).1 (rowE_mem hy).1
    omega
theorem rowE_len (ns : List Str) (i : Nat) : (rowE ns i).length ≤ ns.length := by
  unfold rowE
  cases ns[i]? with
  | none => exact Nat.zero_le _
  | some n => show ((ns.filter (ltS n)).map _).length ≤ _; rw [List.length_map]; exact List.length_filter_le _ _
theorem upE_len {r : Nat → List E2} {m : Nat} (h : ∀ i, (r i).length ≤ m) : ∀ n, (upE r n).length ≤ n * m
  | 0 => Nat.zero_le _
  | n + 1 => by
    show (upE r n ++ r n).length ≤ _
    rw [List.length_append, Nat.succ_mul]
    exact Nat.add_le_add (upE_len h n) (h n)
/-- at l a list of edges worth es -/
def EdsAt (H : Hp) (l : Addr) (es : List E2) : Prop := ∃ ks : List Ed, H l = some (.lst (ks.map fun p => V.ref p.1)) ∧ (∀ p ∈ ks, EdAt H p) ∧ ks.map (·.2) = es
theorem EdsAt.kept {H H' : Hp} {l : Addr} {es : List E2} (h : EdsAt H l es) (s : Same H H') : EdsAt H' l es := by
  obtain ⟨ks, a, b, c⟩ := h
  exact ⟨ks, s _ _ a, fun p hp => s _ _ (b p hp), c⟩
theorem EdsAt.push {H : Hp} {l t : Addr} {es : List E2} {u v : Str} (h : EdsAt H l es) (ht : H t = some (.tup [.str u, .str v])) : ∃ zs : List V, H l = some (.lst zs) ∧ zs.length = es.length ∧ EdsAt (L2.upd H l (.lst (zs ++ [.ref t]))) l (es ++ [(u, v)]) := by
  obtain ⟨ks, a, b, c⟩ := h
  refine ⟨_, a, by rw [List.length_map, ← c, List.length_map], ks ++ [(t, u, v)], ?_, fun p hp => ?_, ?_⟩
  · rw [upd_same, List.map_append]; rfl
  · rcases List.mem_append.mp hp with hp | hp
    · exact (b p hp).keepL a
    · rw [List.mem_singleton.mp hp]; exact EdAt.keepL a ht
  · rw [List.map_append, c]; rfl
/-- l.extend(m) -/
theorem EdsAt.ext {H : Hp} {l m : Addr} {es fs : List E2} (h : EdsAt H l es) (hm : EdsAt H m fs) : ∃ zs ys : List V, H l = some (.lst zs) ∧ H m = some (.lst ys) ∧ zs.length = es.length ∧ ys.length = fs.length ∧ EdsAt (L2.upd H l (.lst (zs ++ ys))) l (es ++ fs) := by
  obtain ⟨ks, a, b, c⟩ := h
  obtain ⟨js, a2, b2, c2⟩ := hm
  refine ⟨_, _, a, a2, by rw [List.length_map, ← c, List.length_map], by rw [List.length_map, ← c2, List.length_map], ks ++ js, ?_, fun p hp => ?_, ?_⟩
  · rw [upd_same, List.map_append]
  · rcases List.mem_append.mp hp with hp | hp
    · exact (b p hp).keepL a
    · exact (b2 p hp).keepL a
  · rw [List.map_append, c, c2]
end CP
namespace CP
open PySem L2
def spGraph : Sp := fun vs H Q _ => ∃ (a : Addr) (mo : Int), vs = [.ref a, .int mo] ∧ 0 < mo ∧ mo ≤ 8 ∧ Src H a ∧
  ∀ p n e ns ks H', H' p = some (.tup [.ref n, .ref e]) → ArgsOk H' n e ns ks → (∀ z ∈ ns, z ∈ base8) → H n = none → H e = none → Src H' a → But a H H' → Q (.ref p) H'
theorem cut_take (xs : List V) (m : Int) (h : 0 ≤ m) : cutV xs none (some m) = xs.take m.toNat := by
  obtain ⟨k, rfl⟩ : ∃ k : Nat, m = k := ⟨m.toNat, by omega⟩
  unfold cutV
  rw [HT.sIx_nat, HT.sIx_none, List.drop_zero, Nat.sub_zero, Int.toNat_natCast]
  by_cases c : k ≤ xs.length
  · rw [Nat.min_eq_left c]
  · rw [Nat.min_eq_right (by omega), List.take_length, List.take_of_length_le (by omega)]
theorem But.none {a b : Addr} {H H' : Hp} (B : But a H H') (n : b ≠ a) (h : H' b = none) : H b = none := by
  cases e : H b with
  | none => rfl
  | some o => rw [B b o n e] at h; cases h
theorem Src.but {a : Addr} {H H' : Hp} (S : Src H a) (s : Same H H') : Src H' a := by
  obtain ⟨x, y, z, e⟩ := S; exact ⟨x, y, z, s _ _ e⟩
theorem Src.ne {a b : Addr} {H : Hp} (S : Src H a) (h : H b = none) : b ≠ a := fun e => by
  obtain ⟨x, y, z, q⟩ := S
  rw [e, q] at h; cases h
theorem EdAt.but {a : Addr} {H H' : Hp} {p : Ed} (S : Src H a) (B : But a H H') (h : EdAt H p) : EdAt H' p := by
  obtain ⟨x, y, z, e⟩ := S
  exact B _ _ (ne_of h e (fun z => by cases z)) h
section
variable {P : Program} {w : World} {K : PySem.W.Frag} {mg : Str → Option Value} {base : Heap}
theorem scGraph : FnScope ["_law_source", "_law_most", "_law_names", "_law_edges", "_law_name", "_law_limit", "_law_end"] ["_law_source", "_law_most"] (defScope sGraph) := ⟨rfl, rfl, rfl, by decide +kernel, rfl, by decide +kernel, by decide +kernel⟩
theorem ok_graph {f fN fM fO : Addr} {fd fdN fdM fdO : FuncData} (F : Fun K "_law_graph" "_law_graph" sGraph f fd) (ml : mg "len" = none) (mmin : mg "min" = none)
    (mN : mg "_law_next" = some (.ref fN)) (GN : FnOk P w K mg base CX0 1 fN fdN ["_law_source", "_law_many"] spNext) (kN : PySem.W.keepIn K (.ref fN) = true) (bN : Binds K fdN ["_law_source", "_law_many"] [])
    (mM : mg "_law_mixed" = some (.ref fM)) (GM : FnOk P w K mg base CX0 2 fM fdM ["_law_source", "_law_some"] (spMixed K)) (kM : PySem.W.keepIn K (.ref fM) = true) (bM : Binds K fdM ["_law_source", "_law_some"] [])
    (mO : mg "_law_one" = some (.ref fO)) (GO : FnOk P w K mg base CX0 2 fO fdO ["_law_source", "_law_some"] (spOne K)) (kO : PySem.W.keepIn K (.ref fO) = true) (bO : Binds K fdO ["_law_source", "_law_some"] []) :
    FnOk P w K mg base CX0 3 f fd ["_law_source", "_law_most"] spGraph := by
  refine F.ok scGraph (fun vs H Q E h => ?_) (fun cdv A outer s H vs Q E hr h => ?_)
  · obtain ⟨a, mo, rfl, _⟩ := h; rfl
  · obtain ⟨a, mo, rfl, mo0, mo8, S0, k⟩ := h
    have hr1 : Room 1 _ := hr.mono (by decide)
    refine ⟨_, pss_cons (ps_set (i := 2) scGraph.nd rfl (Or.inl rfl) (pe_slice sl_list (pe_call GM hr rfl mM kM bM .nil pass0 (pa_cons (pv 0) (pa_cons (pe_lst (pa_cons pe_str (pa_cons pe_str (pa_cons pe_str (pa_cons pe_str (pa_cons pe_str (pa_cons pe_str (pa_cons pe_str (pa_cons pe_str pa_nil))))))))) pa_nil)))
        po_none (po_some (pe_op op_add pe_int (pe_call GN hr1 rfl mN kN bN .nil pass0 (pa_cons (pv 0) (pa_cons (pv 1) pa_nil)))))))
      (pss_cons (ps_set (i := 3) scGraph.nd rfl (Or.inl rfl) (pe_lst pa_nil))
      (pss_cons (ps_for PassesOwn.never rfl (pi_list (pv 2)) (pg_name (i := 4) scGraph.nd rfl (Or.inr rfl))
        (pss_one (ps_expr (pe_bm PySem.F.plainAttrs_list PySem.F.slot_list_extend PySem.F.type_list_extend mt_extend (pv 3) (pa_cons (pe_lc (own := [("_law_end", 6)]) (g := gName 6) rfl scGraph.nd (pi_list (pv 2))
          (blkOk_by (own := [("_law_end", 6)]) (N := ["_law_source", "_law_most", "_law_names", "_law_edges", "_law_name", "_law_limit", "_law_end"]) (sc := defScope sGraph) (by decide +kernel))
          (fun _ _ _ _ _ => pg_name (i := 6) scGraph.nd rfl (Or.inl rfl)) (fun _ _ _ _ _ => pts_one (pt_cmpR op_lt_str (pv 4) (pv 6) (nomark _))) (fun _ _ _ _ _ => pe_tup (pa_cons (pv 4) (pa_cons (pv 6) pa_nil)))) pa_nil)))))
      (pss_cons (ps_set (i := 3) scGraph.nd rfl (Or.inl rfl) (pe_call GM hr rfl mM kM bM .nil pass0 (pa_cons (pv 0) (pa_cons (pv 3) pa_nil))))
      (pss_cons (ps_set (i := 5) scGraph.nd rfl (Or.inl rfl) (pe_call GO hr rfl mO kO bO .nil pass0 (pa_cons (pv 0) (pa_cons (pe_lst (pa_cons pe_int (pa_cons (pe_op op_add (pe_callB call_len_seq (by rfl) ml PySem.boot_len (pa_cons (pv 2) pa_nil)) pe_int)
        (pa_cons (pe_op op_mul pe_int (pe_callB call_len_seq (by rfl) ml PySem.boot_len (pa_cons (pv 2) pa_nil))) (pa_cons (pe_call GN hr1 rfl mN kN bN .nil pass0 (pa_cons (pv 0) (pa_cons (pe_op op_add (pe_callB call_len_seq (by rfl) ml PySem.boot_len (pa_cons (pv 3) pa_nil)) pe_int) pa_nil))) pa_nil))))) pa_nil))))
      (pss_one (ps_ret (pe_tup (pa_cons (pv 2) (pa_cons (pe_slice sl_list (pv 3) po_none (po_some (pe_callB (call_min2 rfl) (by rfl) mmin (by decide +kernel) (pa_cons (pv 5) (pa_cons pe_int pa_nil))))) pa_nil))))))))), ?_⟩
    refine ⟨_, rfl, by show 8 ≤ sizeLine; decide, fun b hb => ?_⟩
    have ba := S0.ne hb
    have s1 : Same H (L2.upd H b (.lst (base8.map V.str))) := Same.new hb
    refine ⟨a, b, base8.map V.str, rfl, S0.but s1, ba.symm, upd_same, fun x hx => ?_, by decide, fun p ys H1 pm hp0 hp1 S1 B1 => ?_⟩
    · obtain ⟨z, hz, rfl⟩ := List.mem_map.mp hx
      exact .txt (base8_ok z hz).strOk
    obtain ⟨bs, pb, rfl⟩ := perm_map pm base8 rfl
    have B01 : But a H H1 := (But.of_same s1).trans B1
    have pa : p ≠ a := (S0.but s1).ne hp0
    refine ⟨_, rfl, _, rfl, a, mo, rfl, S1, mo0, by omega, fun r H2 r0 r1 S2 B2 => ⟨_, _, rfl, rfl, _, rfl, p, _, rfl, SqL.of (B2 p _ pa hp1), fun n hn => ?_⟩⟩
    have e1 : cutV (bs.map V.str) none (some (1 + r)) = (bs.take (1 + r).toNat).map V.str := by rw [cut_take _ _ (by omega), List.map_take]
    rw [e1]
    generalize hns : bs.take (1 + r).toNat = ns
    have len8 : bs.length = 8 := by rw [pb.length_eq]; rfl
    have nsl : ns.length = (1 + r).toNat := by rw [← hns, List.length_take, len8]; omega
    have n0 : 0 < ns.length := by omega
    have n8 : ns.length ≤ 8 := by omega
    have nsub : ∀ z ∈ ns, z ∈ base8 := fun z hz => pb.mem_iff.mp (List.mem_of_mem_take (hns ▸ hz))
    have nnd : ns.Nodup := by rw [← hns]; exact ((pb.nodup_iff).mpr base8_nd).sublist (List.take_sublist _ _)
    have nok : ∀ z ∈ ns, NameOk z := fun z hz => base8_ok z (nsub z hz)
    have na := S2.ne hn
    have B02 := B01.trans B2
    have n00 : H n = none := B02.none na hn
    refine ⟨by show 0 ≤ sizeLine; decide, fun e he => ?_⟩
    generalize hH3 : L2.upd H2 n (.lst (ns.map V.str)) = H3 at he ⊢
    have s23 : Same H2 H3 := by rw [← hH3]; exact Same.new hn
    have n3 : H3 n = some (.lst (ns.map V.str)) := by rw [← hH3]; exact upd_same
    have S3 := S2.but s23
    have ea := S3.ne he
    have B03 : But a H H3 := B02.trans (But.of_same s23)
    have e00 : H e = none := B03.none ea he
    refine ⟨_, rfl, n, rfl, ⟨_, SqL.of (Same.new he _ _ n3)⟩, for_list (K := K) (a := n) (xs := ns.map V.str) (fun i σ H' => ∃ v4, σ = [some (.ref a), some (.int mo), some (.ref n), some (.ref e), v4, none, none] ∧ Same H3 H' ∧ EdsAt H' e (upE (rowE ns) i))
      ⟨_, rfl, Same.new he, [], upd_same, (fun _ z => nomatch z), rfl⟩ (fun i σ H' _ ⟨_, _, s, _⟩ => SqL.of (s _ _ n3)) ?_ ?_⟩
    · rintro i x σ H4 hi ⟨v4, rfl, s4, R4⟩
      have li : i < ns.length := by have := (List.getElem?_eq_some_iff.mp hi).1; rw [List.length_map] at this; exact this
      rw [List.getElem?_map, List.getElem?_eq_getElem li] at hi
      obtain rfl : V.str ns[i] = x := Option.some.inj hi
      obtain ⟨_, r1, _⟩ := id R4
      refine ⟨_, rfl, .inl ⟨rfl, _, SqL.of r1⟩, _, rfl, n, rfl, ⟨_, SqL.of (s4 _ _ n3)⟩, fun D hD => lc_list (K := K) (a := n) (xs := ns.map V.str) (fun j H' => Same H4 H' ∧ EdsAt H' D (((ns.take j).filter (ltS ns[i])).map fun m => (ns[i], m)))
        ⟨Same.new hD, [], upd_same, (fun _ z => nomatch z), rfl⟩ (fun j H' _ ⟨s, _⟩ => SqL.of (s _ _ (s4 _ _ n3))) ?_ ?_⟩
      · rintro j y H5 hj ⟨s5, R5⟩
        have lj : j < ns.length := by have := (List.getElem?_eq_some_iff.mp hj).1; rw [List.length_map] at this; exact this
        rw [List.getElem?_map, List.getElem?_eq_getElem lj] at hj
        obtain rfl : V.str ns[j] = y := Option.some.inj hj
        have tk : ns.take (j + 1) = ns.take j ++ [ns[j]] := take_one (List.getElem?_eq_getElem lj)
        refine ⟨rfl, _, rfl, _, rfl, _, _, rfl, rfl, _, rfl, ?_⟩
        show if ltS ns[i] ns[j] = true then _ else _
        by_cases c : ltS ns[i] ns[j] = true
        · rw [c]
          refine iteT ⟨_, rfl, _, rfl, by show 2 ≤ sizeLine; decide, fun t ht => ?_⟩
          have s6 : Same H5 (L2.upd H5 t (.tup [.str ns[i], .str ns[j]])) := Same.new ht
          obtain ⟨zs, z1, z2, z3⟩ := (R5.kept s6).push (t := t) upd_same
          refine ⟨zs, z1, ?_, Same.grow hD (s5.trans s6), ?_⟩
          · rw [z2, List.length_map, sizeLine_eq]
            have := List.length_filter_le (ltS ns[i]) (ns.take j)
            rw [List.length_take] at this; omega
          · rw [tk, List.filter_append, List.map_append]
            have q : [ns[j]].filter (ltS ns[i]) = [ns[j]] := by simp [c]
            rw [q]; exact z3
        · have c' : ltS ns[i] ns[j] = false := by simpa using c
          rw [c']
          refine iteF ⟨s5, ?_⟩
          rw [tk, List.filter_append]
          have q : [ns[j]].filter (ltS ns[i]) = [] := by simp [c']
          rw [q, List.append_nil]; exact R5
      · rintro H5 ⟨s5, R5⟩
        rw [List.length_map, List.take_length] at R5
        have er : rowE ns i = (ns.filter (ltS ns[i])).map fun m => (ns[i], m) := by
          unfold rowE; rw [List.getElem?_eq_getElem li]
        rw [← er] at R5
        obtain ⟨zs, ys, z1, z2, z3, z4, z5⟩ := (R4.kept s5).ext R5
        refine ⟨e, D, zs, ys, rfl, rfl, z1, z2, ?_, ?_⟩
        · rw [z3, z4, sizeLine_eq]
          have q1 := upE_len (m := ns.length) (rowE_len ns) i
          have q2 := rowE_len ns i
          have q3 : i * ns.length ≤ 8 * 8 := Nat.mul_le_mul (by omega) n8
          omega
        · exact ⟨_, rfl, Same.grow he (s4.trans s5), z5⟩
    · rintro σ H4 ⟨v4, rfl, s4, ks, k1, k2, k3⟩
      rw [List.length_map] at k3
      have S4 := S3.but s4
      have klen : ks.length ≤ 64 := by
        have q1 := upE_len (m := ns.length) (rowE_len ns) ns.length
        have q3 : ns.length * ns.length ≤ 8 * 8 := Nat.mul_le_mul n8 n8
        have q4 := congrArg List.length k3
        rw [List.length_map] at q4; omega
      have kok : ∀ p ∈ ks, EdOk ns p.2 := fun p hp => upE_ok (n := ns.length) (by rw [← k3]; exact List.mem_map.mpr ⟨p, hp, rfl⟩)
      refine ⟨_, rfl, _, rfl, a, e, _, rfl, S4, ea.symm, k1, fun x hx => ?_, by rw [List.length_map]; omega, fun p2 ys H5 pm2 hp20 hp21 S5 B5 => ?_⟩
      · obtain ⟨p, hp, rfl⟩ := List.mem_map.mp hx
        obtain ⟨o1, o2, _⟩ := kok p hp
        exact .edge (k2 p hp) (nok _ o1).strOk (nok _ o2).strOk
      obtain ⟨js, pj, rfl⟩ := perm_map pm2 ks rfl
      have p2a := S4.ne hp20
      have n4 := s4 _ _ n3
      have n5 := B5 n _ na n4
      have j5 : ∀ p ∈ js, EdAt H5 p := fun p hp => EdAt.but S4 B5 (k2 p (pj.mem_iff.mp hp))
      have jlen : js.length ≤ 64 := by rw [pj.length_eq]; exact klen
      refine ⟨_, rfl, _, rfl, n, _, rfl, .inl (SqL.of n5), _, _, rfl, rfl, _, rfl, n, _, rfl, .inl (SqL.of n5), _, _, rfl, rfl, .inl ⟨by decide, by decide⟩, _, rfl, _, rfl, p2, _, rfl, .inl (SqL.of hp21), _, _, rfl, rfl, a, _, rfl, S5, by omega, by rw [List.length_map]; omega, fun r2 H6 r20 r21 S6 B6 => ?_⟩
      refine ⟨by show 4 ≤ sizeLine; decide, fun q hq => ?_⟩
      have qa := S6.ne hq
      have s67 : Same H6 (L2.upd H6 q (.lst [.int 18, .int ((ns.map V.str).length + 1), .int (2 * (ns.map V.str).length), .int r2])) := Same.new hq
      refine ⟨a, q, _, rfl, S6.but s67, qa.symm, SqL.of upd_same, upd_same, by show 0 < 4; decide, by show 4 < 100000; decide, fun x H7 hx S7 B7 => ?_⟩
      obtain ⟨m, m0, rfl⟩ : ∃ m : Int, 0 ≤ m ∧ x = .int m := by
        simp only [List.mem_cons, List.not_mem_nil, or_false] at hx
        rcases hx with rfl | rfl | rfl | rfl
        · exact ⟨_, by decide, rfl⟩
        · exact ⟨_, by omega, rfl⟩
        · exact ⟨_, by omega, rfl⟩
        · exact ⟨_, r20, rfl⟩
      have B57 : But a H5 H7 := (B6.trans (But.of_same s67)).trans B7
      have p7 := B57 p2 _ p2a hp21
      have n7 := B57 n _ na n5
      refine ⟨_, rfl, _, rfl, _, rfl, _, _, rfl, _, rfl, p2, _, rfl, SqL.of p7, fun e2 he2 => ?_⟩
      have e2a := S7.ne he2
      generalize hm : (if (18 : Int) < m then 18 else m) = m2
      have m20 : 0 ≤ m2 := by rw [← hm]; split <;> omega
      have m18 : m2 ≤ 18 := by rw [← hm]; split <;> omega
      rw [cut_take _ _ m20, ← List.map_take]
      refine ⟨by show 2 ≤ sizeLine; decide, fun t ht => ?_⟩
      have B07 : But a H H7 := (((B03.trans (But.of_same s4)).trans B5).trans B57)
      have s78 : Same H7 (L2.upd H7 e2 (.lst ((js.take m2.toNat).map fun p => V.ref p.1))) := Same.new he2
      have s79 : Same H7 (L2.upd (L2.upd H7 e2 (.lst ((js.take m2.toNat).map fun p => V.ref p.1))) t (.tup [.ref n, .ref e2])) := s78.trans (Same.new ht)
      have jsub : ∀ p ∈ js.take m2.toNat, p ∈ js := fun p hp => List.mem_of_mem_take hp
      refine k t n e2 ns (js.take m2.toNat) _ upd_same ⟨s79 _ _ n7, n0, n8, nnd, nok, ?_, fun p hp => s79 _ _ (EdAt.but S5 B57 (j5 p (jsub p hp))), fun p hp => kok p (pj.mem_iff.mp (jsub p hp)), ?_, ?_⟩ nsub n00 (B07.none e2a he2) (S7.but s79) (B07.trans (But.of_same s79))
      · rw [upd_ne (ne_of_none (upd_same (H := H7) (a := e2)) ht)]; exact upd_same
      · have nd1 : (js.map (·.2)).Nodup := (pj.map (·.2)).nodup_iff.mpr (by rw [k3]; exact upE_nd nnd _)
        rw [List.map_take]; exact nd1.sublist (List.take_sublist _ _)
      · rw [List.length_take]; omega
end
end CP
/-! what the source gives, exactly; words of it -/
namespace CP
open PySem L2
abbrev PR : Int := 2147483647
/-- the number that comes of a residue, below m -/
def gv (n m : Int) : Int :=
  let a := n * 48271 % PR
  let b := a * (a / 1009 + 69621) % PR
  let c := b * (b / 2003 + 40692) % 2147483399
  c / 7 % m
def nv (y z m : Int) : Int := gv ((y + 104729 * z + 7919) % PR) m
/-- the source without its second number -/
abbrev SS := Int × Int
def stp (y m : Int) (s : SS) : Int × SS := if 0 < s.1 then (s.1 % m, (s.1 / m, s.2)) else (nv y (s.2 + 1) m, (s.1, s.2 + 1))
def ch (r : Int) : Nat := letters.cps.toList.getD r.toNat 0
def addC (w : Str) (r : Int) : Str := w ++ (⟨#[ch r]⟩ : Str)
def lts (y : Int) (s : SS) : Nat → Str × SS
  | 0 => ("", s)
  | i + 1 => (addC (lts y s i).1 (stp y 26 (lts y s i).2).1, (stp y 26 (lts y s i).2).2)
def lenOf (y : Int) (s : SS) : Nat := (1 + (stp y 8 s).1).toNat
def wrd (y : Int) (s : SS) : Str × SS := lts y (stp y 8 s).2 (lenOf y s)
theorem gv_range {n m : Int} (h : 0 < m) : 0 ≤ gv n m ∧ gv n m < m := ⟨Int.emod_nonneg _ (Int.ne_of_gt h), Int.emod_lt_of_pos _ h⟩
theorem stp_range {y m : Int} {s : SS} (h : 0 < m) : 0 ≤ (stp y m s).1 ∧ (stp y m s).1 < m := by
  unfold stp; split
  · exact ⟨Int.emod_nonneg _ (Int.ne_of_gt h), Int.emod_lt_of_pos _ h⟩
  · exact gv_range h
/-- how one number changes the source -/
theorem stp_next {y m : Int} {s : SS} (h : 1 < m) : ((stp y m s).2.2 = s.2 ∧ 0 < s.1 ∧ 0 ≤ (stp y m s).2.1 ∧ (stp y m s).2.1 < s.1) ∨ ((stp y m s).2 = (s.1, s.2 + 1) ∧ s.1 ≤ 0) := by
  unfold stp; split
  · rename_i c
    refine .inl ⟨rfl, c, Int.ediv_nonneg (by omega) (by omega), ?_⟩
    exact Int.ediv_lt_self_of_pos_of_ne_one (by omega) (by omega) 
  · exact .inr ⟨rfl, by omega⟩
def mu (T : Int) (s : SS) : Nat := s.1.toNat + (T - s.2).toNat
/-- t comes of s by at most k numbers -/
def Comes (k : Nat) (s t : SS) : Prop := s.2 ≤ t.2 ∧ t.2 ≤ s.2 + k ∧ t.1.toNat ≤ s.1.toNat ∧ (s.2 < t.2 → t.1 ≤ 0)
theorem Comes.refl {s : SS} : Comes 0 s s := ⟨Int.le_refl _, by omega, Nat.le_refl _, fun h => absurd h (Int.lt_irrefl _)⟩
theorem comes_stp {k : Nat} {s t : SS} {y m : Int} (h : 1 < m) (c : Comes k s t) : Comes (k + 1) s (stp y m t).2 := by
  obtain ⟨c1, c2, c3, c4⟩ := c
  rcases stp_next (y := y) (s := t) h with ⟨e, p, q, r⟩ | ⟨e, q⟩
  · exact ⟨by omega, by omega, by omega, by omega⟩
  · rw [e]; exact ⟨by show s.2 ≤ t.2 + 1; omega, by show t.2 + 1 ≤ _; omega, c3, fun _ => q⟩
theorem comes_lts {y : Int} {s t : SS} {k : Nat} (c : Comes k s t) : ∀ i, Comes (k + i) s (lts y t i).2
  | 0 => c
  | i + 1 => comes_stp (by decide) (comes_lts c i)
theorem len_le {y : Int} {s : SS} : 1 ≤ lenOf y s ∧ lenOf y s ≤ 8 := by
  have := stp_range (y := y) (m := 8) (s := s) (by decide)
  unfold lenOf; omega
theorem comes_wrd {y : Int} {s : SS} : Comes 9 s (wrd y s).2 := by
  have c := comes_lts (y := y) (comes_stp (y := y) (m := 8) (by decide) (Comes.refl (s := s))) (lenOf y s)
  obtain ⟨c1, c2, c3, c4⟩ := c
  have := len_le (y := y) (s := s)
  exact ⟨c1, by show (lts y (stp y 8 s).2 (lenOf y s)).2.2 ≤ s.2 + ((9 : Nat) : Int); omega, c3, c4⟩
/-- a word takes something of the source -/
theorem wrd_less {y T : Int} {s : SS} (h : s.2 < T) : mu T (wrd y s).2 < mu T s := by
  have c := comes_lts (y := y) (Comes.refl (s := (stp y 8 s).2)) (lenOf y s)
  obtain ⟨c1, c2, c3, c4⟩ := c
  have e : (wrd y s).2 = (lts y (stp y 8 s).2 (lenOf y s)).2 := rfl
  unfold mu; rw [e]
  rcases stp_next (y := y) (m := 8) (s := s) (by decide) with ⟨e, p, q, r⟩ | ⟨e, q⟩
  · omega
  · rw [e] at c1 c2 c3 c4 ⊢
    have c1 : s.2 + 1 ≤ (lts y (s.1, s.2 + 1) (lenOf y s)).2.2 := c1
    have c3 : (lts y (s.1, s.2 + 1) (lenOf y s)).2.1.toNat ≤ s.1.toNat := c3
    omega
/-! ### from a residue on all is known -/
def lj (j : Nat) : Nat → Str
  | 0 => ""
  | i + 1 => addC (lj j i) (gv (104729 * ((j + i : Nat) : Int) % PR) 26)
def lenJ (j : Nat) : Nat := (1 + gv (104729 * (j : Int) % PR) 8).toNat
def wj (j : Nat) : Str × Nat := (lj (j + 1) (lenJ j), j + 1 + lenJ j)
def pos (o : Nat) : Nat → Nat
  | 0 => o
  | k + 1 => (wj (pos o k)).2
theorem nv_at {y c : Int} (h : (y + 104729 * (c + 1) + 7919) % PR = 0) (j : Nat) (m : Int) : nv y (c + j + 1) m = gv (104729 * (j : Int) % PR) m := by
  unfold nv
  have e : y + 104729 * (c + j + 1) + 7919 = (y + 104729 * (c + 1) + 7919) + 104729 * (j : Int) := by omega
  rw [e, Int.add_emod, h, Int.zero_add, Int.emod_emod]
theorem stp_at {y c x : Int} (h : (y + 104729 * (c + 1) + 7919) % PR = 0) (hx : x ≤ 0) (j : Nat) (m : Int) : stp y m (x, c + j) = (gv (104729 * (j : Int) % PR) m, (x, c + ((j + 1 : Nat) : Int))) := by
  unfold stp
  rw [if_neg (by show ¬ 0 < x; omega)]
  show (nv y (c + j + 1) m, (x, c + j + 1)) = _
  rw [nv_at h]
  congr 2; omega
theorem lts_at {y c x : Int} (h : (y + 104729 * (c + 1) + 7919) % PR = 0) (hx : x ≤ 0) (j : Nat) : ∀ i, lts y (x, c + j) i = (lj j i, (x, c + ((j + i : Nat) : Int)))
  | 0 => rfl
  | i + 1 => by
    show (addC (lts y (x, c + j) i).1 (stp y 26 (lts y (x, c + j) i).2).1, (stp y 26 (lts y (x, c + j) i).2).2) = _
    rw [lts_at h hx j i, stp_at h hx]
    rfl
theorem wrd_at {y c x : Int} (h : (y + 104729 * (c + 1) + 7919) % PR = 0) (hx : x ≤ 0) (j : Nat) : wrd y (x, c + j) = ((wj j).1, (x, c + ((wj j).2 : Int))) := by
  have e : lenOf y (x, c + j) = lenJ j := by unfold lenOf lenJ; rw [stp_at h hx]
  unfold wrd
  rw [e, stp_at h hx, lts_at h hx]
  rfl
def ljl (j : Nat) : Nat → List Nat
  | 0 => []
  | i + 1 => ljl j i ++ [ch (gv (104729 * ((j + i : Nat) : Int) % PR) 26)]
theorem addC_list (w : Str) (r : Int) : (addC w r).cps.toList = w.cps.toList ++ [ch r] := by
  show (w.cps ++ #[ch r]).toList = _
  simp
theorem lj_list (j : Nat) : ∀ i, (lj j i).cps.toList = ljl j i
  | 0 => rfl
  | i + 1 => by
    show (addC (lj j i) _).cps.toList = _
    rw [addC_list, lj_list j i]; rfl
def wl (o k : Nat) : List Nat := ljl (pos o k + 1) (lenJ (pos o k))
theorem wl_is (o k : Nat) : (wj (pos o k)).1.cps.toList = wl o k := lj_list _ _
theorem all_words : ∀ o < 10, ((List.range 8).map (wl o)).Nodup ∧ ∀ k < 9, pos o k ≤ 59 := by decide +kernel
/-- the counter comes to any residue, as late as one likes -/
theorem comes_zero (y z0 : Int) : ∃ c, z0 ≤ c ∧ (y + 104729 * (c + 1) + 7919) % PR = 0 := by
  let b : Int := -(1275440712 * (y + 104729 + 7919))
  refine ⟨b + PR * ((z0 - b).toNat : Int), ?_, ?_⟩
  · show z0 ≤ b + 2147483647 * ((z0 - b).toNat : Int)
    omega
  · have e : y + 104729 * (b + PR * ((z0 - b).toNat : Int) + 1) + 7919 = PR * (104729 * ((z0 - b).toNat : Int) - 62201 * (y + 104729 + 7919)) := by
      show y + 104729 * (b + 2147483647 * ((z0 - b).toNat : Int) + 1) + 7919 = 2147483647 * (104729 * ((z0 - b).toNat : Int) - 62201 * (y + 104729 + 7919))
      generalize ((z0 - b).toNat : Int) = t
      show y + 104729 * (-(1275440712 * (y + 104729 + 7919)) + 2147483647 * t + 1) + 7919 = 2147483647 * (104729 * t - 62201 * (y + 104729 + 7919))
      omega
    rw [e]; exact Int.mul_emod_right _ _
end CP
/-! _law_next and _law_one exactly; _law_words -/
namespace CP
open PySem L2
abbrev sWords : Stmt := top 23
def SrcX (H : Hp) (a : Addr) (y : Int) (s : SS) : Prop := H a = some (.lst [.int s.1, .int y, .int s.2])
def spNextX : Sp := fun vs H Q _ => ∃ (a : Addr) (m y : Int) (s : SS), vs = [.ref a, .int m] ∧ SrcX H a y s ∧ 0 < m ∧ m < 1000000 ∧ ∀ H', SrcX H' a y (stp y m s).2 → But a H H' → Q (.int (stp y m s).1) H'
def spOneS : Sp := fun vs H Q _ => ∃ (a : Addr) (y : Int) (s : SS), vs = [.ref a, .str letters] ∧ SrcX H a y s ∧ ∀ H', SrcX H' a y (stp y 26 s).2 → But a H H' → Q (.str ⟨#[ch (stp y 26 s).1]⟩) H'
def spWords : Sp := fun vs H Q _ => ∃ (a : Addr) (m : Nat), vs = [.ref a, .int (m : Int)] ∧ Src H a ∧ m ≤ 8 ∧
  ∀ (l : Addr) (ws : List Str) (H' : Hp), H l = none → H' l = some (.lst (ws.map V.str)) → ws.Nodup → ws.length = m → (∀ z ∈ ws, NameOk z) → Src H' a → But a H H' → Q (.ref l) H'
theorem lts_len {y : Int} {s : SS} : ∀ i, (lts y s i).1.length = i
  | 0 => rfl
  | i + 1 => by
    show (addC (lts y s i).1 _).cps.size = i + 1
    have := lts_len (y := y) (s := s) i
    have e : (lts y s i).1.cps.size = i := this
    rw [← Array.length_toList, addC_list, List.length_append, Array.length_toList, e]; rfl
theorem ch_in {r : Int} (h0 : 0 ≤ r) (h1 : r < 26) : ch r ∈ letters.cps.toList ∧ atI letters.cps.toList r = some (ch r) := by
  have all : ∀ n < 26, letters.cps.toList.getD n 0 ∈ letters.cps.toList ∧ atI letters.cps.toList (n : Int) = some (letters.cps.toList.getD n 0) := by decide +kernel
  obtain ⟨n, rfl⟩ : ∃ n : Nat, r = n := ⟨r.toNat, by omega⟩
  exact all n (by omega)
theorem lts_all {y : Int} {s : SS} : ∀ i, ∀ c ∈ (lts y s i).1.cps.toList, c ∈ letters.cps.toList
  | 0 => fun c h => by cases h
  | i + 1 => fun c h => by
    have h : c ∈ (addC (lts y s i).1 (stp y 26 (lts y s i).2).1).cps.toList := h
    rw [addC_list] at h
    rcases List.mem_append.mp h with h | h
    · exact lts_all i c h
    · have := stp_range (y := y) (m := 26) (s := (lts y s i).2) (by decide)
      simp only [List.mem_cons, List.not_mem_nil, or_false] at h
      rw [h]; exact (ch_in this.1 this.2).1
theorem wrd_ok {y : Int} {s : SS} : NameOk (wrd y s).1 := by
  have l : (wrd y s).1.length = lenOf y s := lts_len _
  have := len_le (y := y) (s := s)
  exact ⟨by omega, by omega, lts_all _⟩
theorem nodup_len {α : Type} [DecidableEq α] : ∀ {l m : List α}, l.Nodup → (∀ x ∈ l, x ∈ m) → l.length ≤ m.length
  | [], _, _, _ => Nat.zero_le _
  | x :: l, m, nd, sub => by
    obtain ⟨n1, n2⟩ := List.nodup_cons.mp nd
    have hx := sub x List.mem_cons_self
    have ih := nodup_len (m := m.erase x) n2 fun y hy => (List.mem_erase_of_ne (fun e : y = x => n1 (e ▸ hy))).mpr (sub y (List.mem_cons_of_mem _ hy))
    have := (List.perm_cons_erase hx).length_eq
    simp only [List.length_cons] at this ⊢
    omega
/-- what holds whenever a word begins -/
def WInv (c : Int) (s : SS) (ws : List Str) : Prop := s.2 ≤ c ∨ ∃ o k, o < 10 ∧ k ≤ 8 ∧ s.1 ≤ 0 ∧ s.2 = c + (pos o k : Nat) ∧ ∀ i < k, (wj (pos o i)).1 ∈ ws
theorem WInv.few {c : Int} {s : SS} {ws : List Str} (h : WInv c s ws) : s.2 < c + 60 := by
  rcases h with h | ⟨o, k, ho, hk, _, e, _⟩
  · omega
  · have := (all_words o ho).2 k (by omega); omega
theorem words_many {o k : Nat} {ws : List Str} (ho : o < 10) (hk : k ≤ 8) (h : ∀ i < k, (wj (pos o i)).1 ∈ ws) : k ≤ ws.length := by
  have nd := (all_words o ho).1
  have sub : ((List.range k).map (wl o)).Nodup := nd.sublist ((List.range_sublist.mpr hk).map _)
  have nd2 : ((List.range k).map fun i => (wj (pos o i)).1).Nodup := by
    refine (List.pairwise_map (f := fun w : Str => w.cps.toList) (R := (· ≠ ·)).mp ?_).imp fun h e => h (congrArg (fun w : Str => w.cps.toList) e)
    rw [List.map_map]
    have e : (List.range k).map ((fun w : Str => w.cps.toList) ∘ fun i => (wj (pos o i)).1) = (List.range k).map (wl o) := List.map_congr_left fun i _ => wl_is o i
    rw [e]; exact sub
  have := nodup_len nd2 (m := ws) fun x hx => by
    obtain ⟨i, hi, rfl⟩ := List.mem_map.mp hx
    exact h i (List.mem_range.mp hi)
  rw [List.length_map, List.length_range] at this; exact this
theorem WInv.next {c y : Int} {s : SS} {ws ws' : List Str} (hc : (y + 104729 * (c + 1) + 7919) % PR = 0) (h : WInv c s ws) (few : ws.length < 8) (sub : ∀ z ∈ ws, z ∈ ws') (has : (wrd y s).1 ∈ ws') : WInv c (wrd y s).2 ws' := by
  rcases h with h | ⟨o, k, ho, hk, hx, e, all⟩
  · obtain ⟨c1, c2, c3, c4⟩ := comes_wrd (y := y) (s := s)
    by_cases q : (wrd y s).2.2 ≤ c
    · exact .inl q
    · refine .inr ⟨((wrd y s).2.2 - c).toNat, 0, by omega, by omega, c4 (by omega), ?_, fun i hi => absurd hi (Nat.not_lt_zero _)⟩
      show _ = c + ((((wrd y s).2.2 - c).toNat : Nat) : Int)
      omega
  · have m := words_many ho hk all
    obtain ⟨x, z⟩ := s
    have e : z = c + (pos o k : Nat) := e
    subst e
    have w := wrd_at hc (x := x) hx (pos o k)
    rw [w] at has ⊢
    refine .inr ⟨o, k + 1, ho, by omega, hx, rfl, fun i hi => ?_⟩
    rcases Nat.lt_or_ge i k with q | q
    · exact sub _ (all i q)
    · have : i = k := by omega
      subst this; exact has
section
variable {P : Program} {w : World} {K : PySem.W.Frag} {mg : Str → Option Value} {base : Heap}
theorem ok_nextX {f : Addr} {fd : FuncData} (F : Fun K "_law_next" "_law_next" sNext f fd) : FnOk P w K mg base CX0 1 f fd ["_law_source", "_law_many"] spNextX := by
  refine F.ok scNext (fun vs H Q E h => ?_) (fun cdv A outer s H vs Q E hr h => ?_)
  · obtain ⟨a, m, y, s, rfl, _⟩ := h; rfl
  · obtain ⟨a, m, y, ⟨x, z⟩, rfl, hS, h0, h1, k⟩ := h
    have hS : H a = some (.lst [.int x, .int y, .int z]) := hS
    refine ⟨_, pss_cons (ps_if (pt_cmpR op_gt (pe_ix ix_list (pv 0) pe_int (fun _ _ => rfl)) pe_int (nomark _))
        (pss_cons (ps_set (i := 2) scNext.nd rfl (Or.inl rfl) (pe_op op_mod (pe_ix ix_list (pv 0) pe_int (fun _ _ => rfl)) (pv 1)))
        (pss_cons (ps_asg (pe_op op_fdiv (pe_ix ix_list (pv 0) pe_int (fun _ _ => rfl)) (pv 1)) (pg_sub (pv 0) pe_int set_list))
        (pss_one (ps_ret (pv 2))))) pss_nil)
      (pss_cons (ps_asg (pe_op op_add (pe_ix ix_list (pv 0) pe_int (fun _ _ => rfl)) pe_int) (pg_sub (pv 0) pe_int set_list))
      (pss_cons (ps_set (i := 3) scNext.nd rfl (Or.inl rfl) pe_int)
      (pss_cons (ps_set (i := 4) scNext.nd rfl (Or.inl rfl) (pe_op op_mod (pe_op op_add (pe_op op_add (pe_ix ix_list (pv 0) pe_int (fun _ _ => rfl)) (pe_op op_mul pe_int (pe_ix ix_list (pv 0) pe_int (fun _ _ => rfl)))) pe_int) (pv 3)))
      (pss_cons (ps_set (i := 4) scNext.nd rfl (Or.inl rfl) (pe_op op_mod (pe_op op_mul (pv 4) pe_int) (pv 3)))
      (pss_cons (ps_set (i := 4) scNext.nd rfl (Or.inl rfl) (pe_op op_mod (pe_op op_mul (pv 4) (pe_op op_add (pe_op op_fdiv (pv 4) pe_int) pe_int)) (pv 3)))
      (pss_cons (ps_set (i := 4) scNext.nd rfl (Or.inl rfl) (pe_op op_mod (pe_op op_mul (pv 4) (pe_op op_add (pe_op op_fdiv (pv 4) pe_int) pe_int)) pe_int))
      (pss_one (ps_ret (pe_op op_mod (pe_op op_fdiv (pv 4) pe_int) (pv 1)))))))))), ?_⟩
    have i0 : ∀ {x y z : Int}, atI [V.int x, V.int y, V.int z] 0 = some (.int x) := rfl
    have i1 : ∀ {x y z : Int}, atI [V.int x, V.int y, V.int z] 1 = some (.int y) := rfl
    have i2 : ∀ {x y z : Int}, atI [V.int x, V.int y, V.int z] 2 = some (.int z) := rfl
    refine ⟨_, rfl, a, _, _, _, rfl, rfl, SqL.of hS, i0, _, _, rfl, rfl, _, rfl, ite2 (fun c => ?_) (fun c => ?_)⟩
    · have e : stp y m (x, z) = (x % m, (x / m, z)) := if_pos (of_decide_eq_true c)
      rw [e] at k
      refine ⟨_, rfl, a, _, _, _, rfl, rfl, SqL.of hS, i0, _, rfl, _, _, rfl, rfl, h0, ?_⟩
      refine ⟨_, rfl, a, _, _, _, rfl, rfl, SqL.of hS, i0, _, rfl, _, _, rfl, rfl, ⟨h0, by omega⟩, _, rfl, a, _, _, 0, rfl, rfl, hS, rfl, _, rfl, ?_⟩
      exact k _ upd_same But.upd
    · have e : stp y m (x, z) = (nv y (z + 1) m, (x, z + 1)) := if_neg fun q => c (decide_eq_true q)
      rw [e] at k
      refine ⟨_, rfl, a, _, _, _, rfl, rfl, SqL.of hS, i2, _, _, rfl, rfl, _, rfl, a, _, _, 2, rfl, rfl, hS, rfl, ?_⟩
      refine ⟨_, rfl, a, _, _, _, rfl, rfl, SqL.of upd_same, i1, _, rfl, a, _, _, _, rfl, rfl, SqL.of upd_same, i2, _, _, rfl, rfl, .inl ⟨by decide, by decide⟩, _, _, rfl, rfl, _, _, rfl, rfl, _, rfl, _, _, rfl, rfl, (show (0 : Int) < 2147483647 by decide), ?_⟩
      refine ⟨_, rfl, _, _, rfl, rfl, .inr ⟨by decide, by decide⟩, _, rfl, _, _, rfl, rfl, (show (0 : Int) < 2147483647 by decide), ?_⟩
      refine ⟨_, rfl, _, rfl, _, _, rfl, rfl, ⟨by decide, by decide⟩, _, _, rfl, rfl, _, _, rfl, rfl, .inl (small_mod _ _ (by decide) (by decide)), _, rfl, _, _, rfl, rfl, (show (0 : Int) < 2147483647 by decide), ?_⟩
      refine ⟨_, rfl, _, rfl, _, _, rfl, rfl, ⟨by decide, by decide⟩, _, _, rfl, rfl, _, _, rfl, rfl, .inl (small_mod _ _ (by decide) (by decide)), _, _, rfl, rfl, (show (0 : Int) < 2147483399 by decide), ?_⟩
      refine ⟨_, rfl, _, _, rfl, rfl, ⟨by decide, by decide⟩, _, rfl, _, _, rfl, rfl, h0, ?_⟩
      exact k _ upd_same But.upd
theorem ok_oneS {f fN : Addr} {fd fdN : FuncData} (F : Fun K "_law_one" "_law_one" sOne f fd) (ml : mg "len" = none)
    (mN : mg "_law_next" = some (.ref fN)) (GN : FnOk P w K mg base CX0 1 fN fdN ["_law_source", "_law_many"] spNextX) (kN : PySem.W.keepIn K (.ref fN) = true) (bN : Binds K fdN ["_law_source", "_law_many"] []) : FnOk P w K mg base CX0 2 f fd ["_law_source", "_law_some"] spOneS := by
  refine F.ok scOne (fun vs H Q E h => ?_) (fun cdv A outer s H vs Q E hr h => ?_)
  · obtain ⟨a, y, s, rfl, _⟩ := h; rfl
  · obtain ⟨a, y, s, rfl, hS, k⟩ := h
    refine ⟨_, pss_one (ps_ret (pe_ix ix_str (pv 1) (pe_call GN hr rfl mN kN bN .nil pass0 (pa_cons (pv 0) (pa_cons (pe_callB call_len_str (by rfl) ml PySem.boot_len (pa_cons (pv 1) pa_nil)) pa_nil))) (fun _ _ => rfl))), ?_⟩
    have r := stp_range (y := y) (m := 26) (s := s) (by decide)
    have l26 : (letters.length : Int) = 26 := by decide +kernel
    refine ⟨_, rfl, _, rfl, _, rfl, letters, rfl, by decide +kernel, ?_⟩
    rw [l26]
    refine ⟨a, 26, y, s, rfl, hS, by decide, by decide, fun H1 S1 B1 => ⟨letters, _, _, rfl, rfl, by decide +kernel, (ch_in r.1 r.2).2, k H1 S1 B1⟩⟩
abbrev nWords : List Str := ["_law_source", "_law_many", "_law_found", "_law_word", "_law_k"]
theorem scWords : FnScope nWords ["_law_source", "_law_many"] (defScope sWords) := ⟨rfl, rfl, rfl, by decide +kernel, rfl, by decide +kernel, by decide +kernel⟩
theorem ok_words {f fN fO : Addr} {fd fdN fdO : FuncData} (F : Fun K "_law_words" "_law_words" sWords f fd) (ml : mg "len" = none) (mr : mg "range" = none)
    (mN : mg "_law_next" = some (.ref fN)) (GN : FnOk P w K mg base CX0 1 fN fdN ["_law_source", "_law_many"] spNextX) (kN : PySem.W.keepIn K (.ref fN) = true) (bN : Binds K fdN ["_law_source", "_law_many"] [])
    (mO : mg "_law_one" = some (.ref fO)) (GO : FnOk P w K mg base CX0 2 fO fdO ["_law_source", "_law_some"] spOneS) (kO : PySem.W.keepIn K (.ref fO) = true) (bO : Binds K fdO ["_law_source", "_law_some"] []) :
    FnOk P w K mg base CX0 3 f fd ["_law_source", "_law_many"] spWords := by
  refine F.ok scWords (fun vs H Q E h => ?_) (fun cdv A outer s H vs Q E hr h => ?_)
  · obtain ⟨a, m, rfl, _⟩ := h; rfl
  · obtain ⟨a, m, rfl, S0, m8, k⟩ := h
    have hr1 : Room 1 _ := hr.mono (by decide)
    obtain ⟨x0, y, z0, hS0⟩ := id S0
    obtain ⟨c, zc, hc⟩ := comes_zero y z0
    refine ⟨_, pss_cons (ps_set (i := 2) scWords.nd rfl (Or.inl rfl) (pe_lst pa_nil))
      (pss_cons (ps_while PassesOwn.never (pt_cmpR op_lt (pe_callB call_len_seq (by rfl) ml PySem.boot_len (pa_cons (pv 2) pa_nil)) (pv 1) (nomark _))
        (pss_cons (ps_set (i := 3) scWords.nd rfl (Or.inl rfl) pe_str)
        (pss_cons (ps_for PassesOwn.never rfl (pi_range1 rfl mr (pa_cons (pe_op op_add pe_int (pe_call GN hr1 rfl mN kN bN .nil pass0 (pa_cons (pv 0) (pa_cons pe_int pa_nil)))) pa_nil)) (pg_name (i := 4) scWords.nd rfl (Or.inl rfl))
          (pss_one (ps_set (i := 3) scWords.nd rfl (Or.inl rfl) (pe_op op_add_str (pv 3) (pe_call GO hr rfl mO kO bO .nil pass0 (pa_cons (pv 0) (pa_cons pe_str pa_nil)))))))
        (pss_one (ps_if (pt_cmpR op_notIn_seq (pv 3) (pv 2) rfl) (pss_one (ps_expr (pe_bm PySem.F.plainAttrs_list PySem.F.slot_list_append PySem.F.type_list_append mt_append (pv 2) (pa_cons (pv 3) pa_nil)))) pss_nil)))))
      (pss_one (ps_ret (pv 2)))), ?_⟩
    refine ⟨by show 0 ≤ sizeLine; decide, fun l hl => ?_⟩
    have al : l ≠ a := S0.ne hl
    have s1 : Same H (L2.upd H l (.lst [])) := Same.new hl
    refine while_by (fun σ H' => ∃ (v3 v4 : Option V) (s : SS) (ws : List Str), σ = [some (.ref a), some (.int (m : Int)), some (.ref l), v3, v4] ∧ SrcX H' a y s ∧ H' l = some (.lst (ws.map V.str)) ∧ ws.Nodup ∧ (∀ z ∈ ws, NameOk z) ∧ ws.length ≤ m ∧ WInv c s ws ∧ But a H H')
      (fun _ H' => match H' a with | some (.lst [.int x, .int _, .int z]) => mu (c + 60) (x, z) | _ => 0) ?_ ?_ ?_
    · exact ⟨_, _, (x0, z0), [], rfl, s1 _ _ hS0, upd_same, .nil, (fun z h => nomatch h), Nat.zero_le _, .inl zc, But.of_same s1⟩
    · rintro σ H1 ⟨v3, v4, s1, ws, rfl, hS, hL, nd, nok, lm, inv, B1⟩
      have bud := (inv.few : s1.2 < c + 60)
      refine ⟨_, rfl, l, _, rfl, .inl (SqL.of hL), _, rfl, _, _, rfl, rfl, _, rfl, ?_⟩
      rw [List.length_map]
      by_cases cm : (ws.length : Int) < (m : Int)
      · rw [decide_eq_true cm]
        have cm' : ws.length < m := by omega
        refine iteT ⟨_, rfl, a, 8, y, s1, rfl, hS, by decide, by decide, fun H2 S2 B2 => ?_⟩
        have r8 := stp_range (y := y) (m := 8) (s := s1) (by decide)
        have ln := len_le (y := y) (s := s1)
        have hL2 := B2 _ _ al hL
        refine ⟨_, _, rfl, rfl, _, rfl, by omega, by omega, for_range (n := lenOf y s1) (fun i σ H' => (∃ v4, σ = [some (.ref a), some (.int (m : Int)), some (.ref l), some (.str (lts y (stp y 8 s1).2 i).1), v4]) ∧ SrcX H' a y (lts y (stp y 8 s1).2 i).2 ∧ But a H2 H') ⟨⟨_, rfl⟩, S2, But.refl⟩ ?_ ?_⟩
        · rintro i σ H3 hi ⟨⟨v4, rfl⟩, S3, B3⟩
          refine ⟨_, rfl, _, rfl, a, y, _, rfl, S3, fun H4 S4 B4 => ⟨_, _, rfl, rfl, ?_, ⟨_, rfl⟩, S4, B3.trans B4⟩⟩
          rw [lts_len]; show i + 1 ≤ sizeLine; rw [sizeLine_eq]; omega
        · rintro σ H3 ⟨⟨v4, rfl⟩, S3, B3⟩
          have S3 : SrcX H3 a y (wrd y s1).2 := S3
          have B13 := B2.trans B3
          have hL3 := B13 _ _ al hL
          have few8 : ws.length < 8 := by omega
          have dec : ∀ {Hx : Hp} {s' : SS}, SrcX Hx a y s' → mu (c + 60) s' < mu (c + 60) s1 → (match Hx a with | some (.lst [.int x, .int _, .int z]) => mu (c + 60) (x, z) | _ => 0) < (match H1 a with | some (.lst [.int x, .int _, .int z]) => mu (c + 60) (x, z) | _ => 0) := fun {Hx s'} h q => by
            have h : Hx a = some (.lst [.int s'.1, .int y, .int s'.2]) := h
            have hS : H1 a = some (.lst [.int s1.1, .int y, .int s1.2]) := hS
            rw [h, hS]; exact q
          refine ⟨_, rfl, _, rfl, l, _, rfl, .inl (SqL.of hL3), rfl, flat_txt ws, _, rfl, ?_⟩
          show if (!inV (.str (wrd y s1).1) (ws.map V.str)) = true then _ else _
          rw [inV_txt]
          by_cases cw : (wrd y s1).1 ∈ ws
          · rw [decide_eq_true cw]
            exact iteF ⟨⟨_, _, _, ws, rfl, S3, hL3, nd, nok, lm, inv.next hc few8 (fun z h => h) cw, B1.trans B13⟩, dec S3 (wrd_less bud)⟩
          · rw [decide_eq_false cw]
            refine iteT ⟨_, rfl, .inl ⟨rfl, _, SqL.of hL3⟩, _, rfl, l, _, _, rfl, rfl, hL3, by rw [List.length_map, sizeLine_eq]; omega, ?_⟩
            have S4 : SrcX (L2.upd H3 l (.lst (ws.map V.str ++ [.str (wrd y s1).1]))) a y (wrd y s1).2 := by unfold SrcX; rw [upd_ne al.symm]; exact S3
            refine ⟨⟨_, _, _, ws ++ [(wrd y s1).1], rfl, S4, ?_, ?_, ?_, by rw [List.length_append]; show _ + 1 ≤ _; omega, inv.next hc few8 (fun z h => List.mem_append_left _ h) (List.mem_append_right _ List.mem_cons_self), ?_⟩, dec S4 (wrd_less bud)⟩
            · rw [upd_same, List.map_append]; rfl
            · exact List.nodup_append.mpr ⟨nd, by simp, fun x hx z hz => by simp only [List.mem_cons, List.not_mem_nil, or_false] at hz; rw [hz]; exact fun e => cw (e ▸ hx)⟩
            · intro z hz
              rcases List.mem_append.mp hz with h | h
              · exact nok z h
              · simp only [List.mem_cons, List.not_mem_nil, or_false] at h
                rw [h]; exact wrd_ok
            · exact fun b o n e => by rw [upd_ne (ne_of_none e hl)]; exact (B1.trans B13) b o n e
      · rw [decide_eq_false cm]
        refine iteF ⟨_, rfl, ?_⟩
        exact k l ws H1 hl hL nd (by omega) nok ⟨_, _, _, hS⟩ B1
    · rintro σ H' Q1 Q2 mm ⟨v, ev, aa, ys, e1, e2, u, eu, i, j, e3, e4, b, eb, q⟩
      exact ⟨v, ev, aa, ys, e1, e2, u, eu, i, j, e3, e4, b, eb, mm _ _ q⟩
end
end CP
/-! min(t), max(t), t a tuple of two texts -/
namespace CP
open PySem PySem.W PySem.Spec PyProof.Rows L2
section
variable {X : Cx}
theorem alike_txt (u v : Str) : AlikeAll [PyData.str u, .str v] := by
  refine ⟨fun x hx y hy => ?_, fun x hx => ?_⟩
  · simp only [List.mem_cons, List.not_mem_nil, or_false] at hx hy
    rcases hx with rfl | rfl <;> rcases hy with rfl | rfl <;> simp [alike]
  · simp only [List.mem_cons, List.not_mem_nil, or_false] at hx
    rcases hx with rfl | rfl <;> simp
def minS (u v : Str) : Str := if ltS v u = true then v else u
def maxS (u v : Str) : Str := if ltS u v = true then v else u
def rMinT : List V → Hp → VK → Prop := fun vs H Q => ∃ (a : Addr) (u v : Str), vs = [.ref a] ∧ H a = some (.tup [.str u, .str v]) ∧ Q (.str (minS u v)) H
def rMaxT : List V → Hp → VK → Prop := fun vs H Q => ∃ (a : Addr) (u v : Str), vs = [.ref a] ∧ H a = some (.tup [.str u, .str v]) ∧ Q (.str (maxS u v)) H
theorem call_minT (hc : X.calm = true) (hu : X.A.units + 64 < cLine) : CallR X (.builtin "min") rMinT := by
  intro pins s σ H xs us Q I r h
  obtain ⟨a, u, v, rfl, ha, k⟩ := h
  rw [Vals.ref1 r]
  obtain ⟨its, rv, ht, _⟩ := I.tuple (SqT.of ha)
  obtain ⟨w1, w2, rfl, ⟨t1, rfl⟩, ⟨t2, rfl⟩⟩ := vals2 rv
  have dep : PyData.depthAll [PyData.str u, .str v] = 0 := by simp [PyData.depthAll, PyData.depth]
  refine min_tuple_data (I.ok.hd hc) ht (x := .str u) (xs := [.str v]) (.cons (.str u t1) (.cons (.str v t2) .nil)) (alike_txt u v) (by rw [dep]; omega) fun i z h' tk bs _ rd kp => ?_
  have e : minD (.str u) [.str v] = .str (minS u v) := by
    show (if dataLt (.str v) (.str u) = true then PyData.str v else .str u) = _
    rw [dataLt_str]; unfold minS ltS; split <;> rfl
  rw [e] at rd
  cases rd
  exact ⟨.str (minS u v), H, I.kept (t' := tk) kp, ⟨_, rfl⟩, k⟩
theorem call_maxT (hc : X.calm = true) (hu : X.A.units + 64 < cLine) : CallR X (.builtin "max") rMaxT := by
  intro pins s σ H xs us Q I r h
  obtain ⟨a, u, v, rfl, ha, k⟩ := h
  rw [Vals.ref1 r]
  obtain ⟨its, rv, ht, _⟩ := I.tuple (SqT.of ha)
  obtain ⟨w1, w2, rfl, ⟨t1, rfl⟩, ⟨t2, rfl⟩⟩ := vals2 rv
  have dep : PyData.depthAll [PyData.str u, .str v] = 0 := by simp [PyData.depthAll, PyData.depth]
  refine max_tuple_data (I.ok.hd hc) ht (x := .str u) (xs := [.str v]) (.cons (.str u t1) (.cons (.str v t2) .nil)) (alike_txt u v) (by rw [dep]; omega) fun i z h' tk bs _ rd kp => ?_
  have e : maxD (.str u) [.str v] = .str (maxS u v) := by
    show (if dataLt (.str u) (.str v) = true then PyData.str v else .str u) = _
    rw [dataLt_str]; unfold maxS ltS; split <;> rfl
  rw [e] at rd
  cases rd
  exact ⟨.str (maxS u v), H, I.kept (t' := tk) kp, ⟨_, rfl⟩, k⟩
end
end CP
/-! x == y, x an instance of a class that has its own __eq__, y another instance of it or a value of a built-in type -/
namespace CP
open PySem PySem.Spec PyProof.Rows PySem.SeqAt L2
theorem ty_looks {M : Model} {s : Shared} {u : Value} {T : String} (h : s.TypeIs u T) : PySem.W.Looks M s.heap (typeOf u) (.type T) := by
  intro A Q E s' kp q
  refine wpAny_typeOf (T := T) ?_ q
  cases u with
  | ref a => obtain ⟨o, e, c⟩ := h; exact ⟨o, kp _ _ e, c⟩
  | _ => exact h
section
variable {X : Cx} {C f : Addr} {fd : FuncData} {ps : List Str} {n : Nat} {sp : Sp}
def rEqI (K : PySem.W.Frag) (C : Addr) (sp : Sp) : R2 := fun x y H Q => ∃ a dx fs, x = .ref a ∧ H a = some (.ins C dx fs) ∧ ((∃ b dy gs, y = .ref b ∧ H b = some (.ins C dy gs)) ∨ ∃ T, TyB K H y T ∧ PySem.W.notFirst K C (.type T) = true) ∧ sp [.ref a, y] H (fun v H' => ∃ r, v = .bl r ∧ Q (.bl r) H') E0
theorem op_eqI (FE : FnOk X.prog X.w X.K X.mg X.base CX0 n f fd ps sp) (hr : Room n X.A) (he : PySem.W.findIn X.K (.ref C) "__eq__" = some (some (.ref f))) (hf : PySem.W.isFn X.K (.ref f) = true) (hb : Binds X.K fd ps []) : OpR X (compareOp .Eq) (rEqI X.K C sp) := by
  intro pins s σ H x y v u Q I rx ry h
  obtain ⟨a, dx, fs, rfl, ha, ty, hsp⟩ := h
  cases rx
  obtain ⟨mA, J, _⟩ := ins_get I.hok ha
  obtain ⟨od, J, _⟩ := J.look
  obtain ⟨m, hF⟩ := I.fr
  have hl := FE.len _ _ _ _ hsp
  have r2 : Vals [V.ref a, y] [Value.ref a, u] := .cons rfl (.cons ry .nil)
  have core : wpAny (model X.prog X.w) X.A (call (.ref f) [.ref a, u]) (PySem.W.CmpBack (EP X pins σ Q)) X.xe s := by
    refine wpAny_call (codeAny_mono (FE.run X.A X.stack s H ⟨[.ref a, u], []⟩ [.ref a, u] [.ref a, y] _ E0 hr I.env0 (by
      have := hb s [.ref a, u] I.kIn (by simpa using hl)
      simpa using this) r2 hsp) fun r s' hq => ?_)
    cases r with
    | error e => exact (hq : False).elim
    | ok fl =>
      cases fl with
      | ret w =>
        obtain ⟨z, H', I', rz, r, ez, q⟩ := I.after hq
        subst ez
        cases rz
        show EP X pins σ Q (.bool r) s'
        exact ⟨.bl r, H', I', rfl, q⟩
      | next => exact False.elim hq
      | brk => exact False.elim hq
      | cont => exact False.elim hq
  rcases ty with ⟨b, dy, gs, rfl, hb'⟩ | ⟨T, t, nf⟩
  · cases ry
    obtain ⟨mB, J', _⟩ := ins_get I.hok hb'
    obtain ⟨od', J', _⟩ := J'.look
    exact PySem.W.cmp_K (op := .Eq) (tb := .ref C) hr.units0 hF I.ok.mod.kin J J'.type (by simp [PySem.W.notFirst]) he hf core
  · have tt := t.is I ry
    exact PySem.W.cmp_K (op := .Eq) (tb := .type T) hr.units0 hF I.ok.mod.kin J (ty_looks tt) nf he hf core
end
end CP
/-! dict(zip(xs, ys)), xs a list of different texts -/
namespace CP
open PySem PySem.Spec PyProof.Rows L2
theorem merged_new {κ : Type} [DecidableEq κ] : ∀ {more acc : List (κ × Value)}, (more.map (·.1)).Nodup → (∀ p ∈ more, p.1 ∉ acc.map (·.1)) → merged acc more = acc ++ more
  | [], acc, _, _ => by simp [merged]
  | p :: more, acc, nd, dis => by
    rw [List.map_cons] at nd
    obtain ⟨n1, n2⟩ := List.nodup_cons.mp nd
    have st : stored acc p.1 p.2 = acc ++ [p] := by
      unfold stored
      rw [if_neg]
      intro z
      obtain ⟨q, hq, e⟩ := List.any_eq_true.mp z
      exact dis p List.mem_cons_self (List.mem_map.mpr ⟨q, hq, of_decide_eq_true e⟩)
    have ih := merged_new (more := more) (acc := acc ++ [p]) n2 fun q hq z => by
      rw [List.map_append] at z
      rcases List.mem_append.mp z with z | z
      · exact dis q (List.mem_cons_of_mem _ hq) z
      · simp only [List.map_cons, List.map_nil, List.mem_cons, List.not_mem_nil, or_false] at z
        exact n1 (List.mem_map.mpr ⟨q, hq, z⟩)
    show merged (stored acc p.1 p.2) more = _
    rw [st, ih, List.append_assoc]; rfl
def zipK : List Str → List V → List (Key × V)
  | k :: ks, y :: ys => (.inr k, y) :: zipK ks ys
  | _, _ => []
def zipW : List Str → List Value → List (Key × Value)
  | k :: ks, y :: ys => (.inr k, y) :: zipW ks ys
  | _, _ => []
theorem zip_kv : ∀ {ks : List Str} {ys : List V} {its : List Value}, Vals ys its → KV (zipK ks ys) (zipW ks its)
  | [], _, _, _ => by simp only [zipK, zipW]; exact .nil
  | k :: ks, _, _, .nil => by simp only [zipK, zipW]; exact .nil
  | k :: ks, _, _, .cons r rr => by simp only [zipK, zipW]; exact .cons ⟨rfl, r⟩ (zip_kv rr)
theorem zipW_len : ∀ {ks : List Str} {its : List Value}, (zipW ks its).length = min ks.length its.length
  | [], _ => by simp [zipW]
  | _ :: _, [] => by simp [zipW]
  | k :: ks, i :: its => by simp only [zipW, List.length_cons]; rw [zipW_len]; omega
theorem zipK_len : ∀ {ks : List Str} {its : List V}, (zipK ks its).length = min ks.length its.length
  | [], _ => by simp [zipK]
  | _ :: _, [] => by simp [zipK]
  | k :: ks, i :: its => by simp only [zipK, List.length_cons]; rw [zipK_len]; omega
theorem zipW_at : ∀ {ks : List Str} {us its : List Value} {i : Nat} {key v : Value}, Vals (ks.map V.str) us → us[i]? = some key → its[i]? = some v → ∃ k : Key, (zipW ks its)[i]? = some (k, v) ∧ keyIs k key = true
  | [], _, _, i, key, v, r, e1, e2 => by cases r; simp at e1
  | k :: ks, _, [], i, key, v, r, e1, e2 => by simp at e2
  | k :: ks, _, w :: its, 0, key, v, .cons r rr, e1, e2 => by
    obtain ⟨t, rfl⟩ := r
    cases Option.some.inj e1
    cases Option.some.inj e2
    exact ⟨.inr k, rfl, by simp [keyIs, Value.isStrOf]⟩
  | k :: ks, _, w :: its, i + 1, key, v, .cons r rr, e1, e2 => zipW_at (i := i) rr e1 e2
theorem zipW_keys : ∀ {ks : List Str} {its : List Value}, ∀ p ∈ zipW ks its, ∃ k ∈ ks, p.1 = .inr k
  | [], _, p, h => by simp [zipW] at h
  | _ :: _, [], p, h => by simp [zipW] at h
  | k :: ks, i :: its, p, h => by
    simp only [zipW, List.mem_cons] at h
    rcases h with rfl | h
    · exact ⟨k, List.mem_cons_self, rfl⟩
    · obtain ⟨q, hq, e⟩ := zipW_keys p h
      exact ⟨q, List.mem_cons_of_mem _ hq, e⟩
theorem zipW_nd : ∀ {ks : List Str} {its : List Value}, ks.Nodup → ((zipW ks its).map (·.1)).Nodup
  | [], _, _ => by simp [zipW]
  | _ :: _, [], _ => by simp [zipW]
  | k :: ks, i :: its, nd => by
    obtain ⟨n1, n2⟩ := List.nodup_cons.mp nd
    simp only [zipW, List.map_cons]
    refine List.nodup_cons.mpr ⟨fun z => ?_, zipW_nd n2⟩
    obtain ⟨p, hp, e⟩ := List.mem_map.mp z
    obtain ⟨q, hq, e2⟩ := zipW_keys p hp
    rw [e2] at e
    injection e with e
    exact n1 (e ▸ hq)
def tDZ (K : PySem.W.Frag) (ta : TA) : TE := fun σ H Q => ta σ H fun vs H1 => ∃ (a b : Addr) (ks : List Str) (ys : List V), vs = [.ref a, .ref b] ∧ SqL K H1 a (ks.map V.str) ∧ SqL K H1 b ys ∧ ks.Nodup ∧ ∀ p, H1 p = none → Q (.ref p) (L2.upd H1 p (.dK (zipK ks ys)))
theorem pe_dictzip {X : Cx} {e e2 : Expr} {ta : TA} {p1 p2 pos1 pos2 : Pos} (hc : X.calm = true) (hg1 : Gl X "dict") (hm1 : X.mg "dict" = none) (hg : Gl X "zip") (hm : X.mg "zip" = none) (ha : PA X [e, e2] ta)
    (hs : starEach [e, e2] X.env = (false, eval e X.env) :: starEach [e2] X.env := by rfl) (hpl : (backTo pos2 (starEach [e2] X.env)).any (·.1) = false := by rfl)
    (hs1 : starEach [.Call (.Name "zip" p2) [e, e2] [] pos2] X.env = (false, eval (.Call (.Name "zip" p2) [e, e2] [] pos2) X.env) :: starEach [] X.env := by rfl) (hpl1 : (backTo pos1 (starEach [] X.env)).any (·.1) = false := by rfl) :
    PE X (.Call (.Name "dict" p1) [.Call (.Name "zip" p2) [e, e2] [] pos2] [] pos1) (tDZ X.K ta) := by
  refine ⟨fun pins s σ H Q I h => ?_⟩
  refine wpAny_Call_Name_kw (ld_blt I hg1 hm1 (by decide +kernel) (PyProof.Rows.callWith_type1 (T := "dict") ?_ hs1 hpl1))
  rw [hs1]
  show wpAny _ _ (spliced ((false, eval (.Call (.Name "zip" p2) [e, e2] [] pos2) X.env) :: backTo pos1 (starEach [] X.env))) _ _ s
  refine Calls.spliced_cons ?_
  refine Call_ (ld_blt I hg hm PyProof.Rows.boot_zip (PyProof.Rows.callWith_type1 (thn (ha.run pos2 pins s σ H _ I h) fun us s1 ⟨vs, H1, I1, r1, q1⟩ => ?_) hs hpl))
  obtain ⟨a, b, ks, ys, ex, hqx, hqy, nd, q⟩ := q1
  subst ex
  obtain ⟨v1, v2, rfl, r, r'⟩ := vals2 r1
  cases r
  cases r'
  obtain ⟨its, rv, pl1, z1⟩ := I1.list hqx
  obtain ⟨its2, rv2, pl2, z2⟩ := I1.list hqy
  have la : a < s1.heap.objs.size := pl1.lt
  have lb : b < s1.heap.objs.size := pl2.lt
  refine call_zip_2 pl1.isList pl2.isList fun h' hz hTI hTO h1 h2 hsz hk => ?_
  refine Calls.spliced_nil ?_
  have len1 := rv.length
  rw [List.length_map] at len1
  have len2 := rv2.length
  refine call_dict_pairs (knd := mixKind X.prog X.w) (kvs := zipW ks its2) (PairArg.zip _ _ _ _ _ a b (PySem.W.ktu_apart s1.heap.objs.size a b la lb) its.toArray its2.toArray) (I.ok.hd hc) ⟨hz, hTI, ⟨_, _, hTO⟩, h1, h2, pl1.isList.at fun o e => hk _ o e, pl2.isList.at fun o e => hk _ o e⟩ ⟨?_, ?_⟩ ?_ fun h'' tk hd hk2 => ?_
  · rw [zipW_len]; simp [len1]
  · rintro i key v ⟨e1, e2⟩
    exact zipW_at rv (by simpa using e1) (by simpa using e2)
  · simp only [List.size_toArray]
    have : its.length ≤ sizeLine := by rw [← len1]; rw [List.length_map] at z1; exact z1
    omega
  · rw [merged_new (zipW_nd nd) (fun _ _ z => by simp at z), List.nil_append] at hd
    have keep : ∀ b u, s1.heap.get? b = some u → h''.get? b = some u := fun b u e => hk2 b u (fun z => by
      have l := Heap.lt_size e
      simp only [List.mem_cons, List.not_mem_nil, or_false] at z
      rcases z with z | z | z | z <;> exact absurd l (by rw [z]; first | exact Nat.not_lt.mpr (Nat.le_add_right _ _) | exact Nat.lt_irrefl _)) (hk _ _ e)
    have hsz' : ({ s1 with heap := h' } : Shared).heap.objs.size = s1.heap.objs.size + 5 := hsz
    have new : ObjOk X.prog X.w (L2.upd H1 h'.objs.size (.dK (zipK ks ys))) h'' h'.objs.size (.dK (zipK ks ys)) :=
      ⟨by rw [zipK_len]; rw [List.length_map] at z1; omega, beq_eq_false_iff_ne.mpr (Ne.symm (Nat.ne_of_lt (Nat.lt_of_lt_of_le I1.big (by rw [hsz]; exact Nat.le_add_right _ _)))), _, zip_kv rv2, hd⟩
    exact ⟨.ref h'.objs.size, _, I1.laid (t' := tk) keep (by omega) new, rfl, q _ (I1.hok.fresh (by omega))⟩
end CP
/-! Graph.__eq__ of two graphs -/
namespace CP
open PySem PySem.Spec PyProof.Rows L2
abbrev sEq : Stmt := inClass (top 8) 1
def OkE (e : E2) : Prop := PyData.strOk e.1 = true ∧ PyData.strOk e.2 = true
theorem encE_lay {e : E2} (h : OkE e) : (encE e).canLay0 = true := by simp [encE, PyData.canLay0, PyData.canLayAll0, h.1, h.2]
theorem encE_depth (e : E2) : (encE e).depth = 1 := by simp [encE, PyData.depth, PyData.depthAll]
theorem dp_edges {K : PySem.W.Frag} {H : Hp} : ∀ {es : List Ed}, (∀ q ∈ es, EdAt H q) → DpAll K H (es.map fun q => V.ref q.1) (es.map fun q => encE q.2)
  | [], _ => .nil
  | q :: es, h => .cons (dp_edge (h q List.mem_cons_self)) (dp_edges fun r hr => h r (List.mem_cons_of_mem _ hr))
theorem eqv_E (e f : E2) : PyData.eqv (encE e) (encE f) = decide (e = f) := by
  have h : PyData.eqv (encE e) (encE f) = (PyData.eqv (.str e.1) (.str f.1) && PyData.eqv (.str e.2) (.str f.2)) := by simp [encE, PyData.eqv, PyData.eqvAll]
  rw [h, eqv_str, eqv_str]
  obtain ⟨a, b⟩ := e; obtain ⟨c, d⟩ := f
  by_cases h1 : a = c <;> by_cases h2 : b = d <;> simp [h1, h2]
theorem eqvAll_txt : ∀ ns ms : List Str, PyData.eqv (.tuple (ns.map PyData.str)) (.tuple (ms.map PyData.str)) = decide (ns = ms)
  | [], [] => by simp [PyData.eqv, PyData.eqvAll]
  | [], _ :: _ => by simp [PyData.eqv, PyData.eqvAll]
  | _ :: _, [] => by simp [PyData.eqv, PyData.eqvAll]
  | z :: ns, y :: ms => by
    have ih := eqvAll_txt ns ms
    have e := eqv_str z y
    simp only [List.map_cons, PyData.eqv, PyData.eqvAll] at ih e ⊢
    rw [e, ih]
    by_cases h1 : z = y <;> by_cases h2 : ns = ms <;> simp [h1, h2]
theorem eqvAll_eds : ∀ es fs : List E2, PyData.eqv (.tuple (es.map encE)) (.tuple (fs.map encE)) = decide (es = fs)
  | [], [] => by simp [PyData.eqv, PyData.eqvAll]
  | [], _ :: _ => by simp [PyData.eqv, PyData.eqvAll]
  | _ :: _, [] => by simp [PyData.eqv, PyData.eqvAll]
  | z :: ns, y :: ms => by
    have ih := eqvAll_eds ns ms
    have e := eqv_E z y
    have u : PyData.eqv (.tuple ((z :: ns).map encE)) (.tuple ((y :: ms).map encE)) = (PyData.eqv (encE z) (encE y) && PyData.eqv (.tuple (ns.map encE)) (.tuple (ms.map encE))) := by simp [PyData.eqv, PyData.eqvAll]
    rw [u, e, ih]
    by_cases h1 : z = y <;> by_cases h2 : ns = ms <;> simp [h1, h2]
theorem txts_lay : ∀ {ns : List Str}, (∀ z ∈ ns, PyData.strOk z = true) → PyData.canLayAll0 (ns.map PyData.str) = true
  | [], _ => by simp [PyData.canLayAll0]
  | z :: ns, h => by simp [PyData.canLayAll0, PyData.canLay0, h z List.mem_cons_self, txts_lay fun y hy => h y (List.mem_cons_of_mem _ hy)]
theorem txts_depth : ∀ ns : List Str, PyData.depthAll (ns.map PyData.str) = 0
  | [] => by simp [PyData.depthAll]
  | z :: ns => by simp [PyData.depthAll, PyData.depth, txts_depth ns]
theorem txts_shaped {ns : List Str} (h : ∀ z ∈ ns, PyData.strOk z = true) : SeqAt.shaped (.tuple (ns.map PyData.str)) = true := by
  have c1 : (PyData.tuple (ns.map PyData.str)).canLay0 = true := by simp [PyData.canLay0, txts_lay h]
  have c2 : (PyData.tuple (ns.map PyData.str)).depth = PyData.depthAll (ns.map PyData.str) + 1 := by first | rfl | simp [PyData.depth, Nat.add_comm]
  unfold SeqAt.shaped; rw [c1, c2, txts_depth]; rfl
theorem eds_lay : ∀ {es : List E2}, (∀ e ∈ es, OkE e) → PyData.canLayAll0 (es.map encE) = true
  | [], _ => by simp [PyData.canLayAll0]
  | e :: es, h => by simp [PyData.canLayAll0, encE_lay (h e List.mem_cons_self), eds_lay fun y hy => h y (List.mem_cons_of_mem _ hy)]
theorem eds_depth : ∀ es : List E2, PyData.depthAll (es.map encE) ≤ 1
  | [] => by simp [PyData.depthAll]
  | e :: es => by
    have a := encE_depth e; have b := eds_depth es
    simp only [List.map_cons, PyData.depthAll]; omega
theorem eds_shaped {es : List E2} (h : ∀ e ∈ es, OkE e) : SeqAt.shaped (.tuple (es.map encE)) = true := by
  have c1 : (PyData.tuple (es.map encE)).canLay0 = true := by simp [PyData.canLay0, eds_lay h]
  have c2 : (PyData.tuple (es.map encE)).depth = PyData.depthAll (es.map encE) + 1 := by first | rfl | simp [PyData.depth, Nat.add_comm]
  have := eds_depth es
  unfold SeqAt.shaped; rw [c1, c2]; simp; omega
theorem dp_txts {K : PySem.W.Frag} {H : Hp} : ∀ ns : List Str, DpAll K H (ns.map V.str) (ns.map PyData.str)
  | [] => .nil
  | z :: ns => .cons (.str z) (dp_txts ns)
theorem dp_edsT {K : PySem.W.Frag} {H : Hp} {t : Addr} {es : List Ed} (h : H t = some (.tup (es.map fun p => V.ref p.1))) (he : ∀ p ∈ es, EdAt H p) : Dp K H (.ref t) (.tuple ((es.map (·.2)).map encE)) := by
  have := dp_edges (K := K) he
  rw [List.map_map]; exact .tup (SqT.of h) this
/-- what == with a graph on the left says, of any value on the right -/
def spGEqA (K : PySem.W.Frag) (C : Addr) : Sp := fun vs H Q _ => ∃ (g : Addr) (y : V) (ns : List Str) (es : List Ed), vs = [.ref g, y] ∧ GrAt C H g ns es ∧ (∀ z ∈ ns, PyData.strOk z = true) ∧ (∀ e ∈ es.map (·.2), OkE e) ∧
  ((∃ (h : Addr) (ms : List Str) (fs : List Ed), y = .ref h ∧ GrAt C H h ms fs ∧ (∀ z ∈ ms, PyData.strOk z = true) ∧ (∀ e ∈ fs.map (·.2), OkE e) ∧ Q (.bl (decide (ns = ms) && decide (es.map (·.2) = fs.map (·.2)))) H) ∨
   (∃ t : Value, TyX K H y t ∧ PySem.W.kitOne K t (.ref C) = some false ∧ Q (.bl false) H))
section
variable {P : Program} {w : World} {K : PySem.W.Frag} {mg : Str → Option Value} {base : Heap}
theorem scEq : FnScope ["self", "other"] ["self", "other"] (defScope sEq) := ⟨rfl, rfl, rfl, by decide +kernel, rfl, by decide +kernel, by decide +kernel⟩
theorem ok_geqA {f C : Addr} {fd : FuncData} (F : Fun K "__eq__" "Graph.__eq__" sEq f fd) (T : GTxt K mg C) (mi : mg "isinstance" = none) (kC : PySem.W.kitOne K (.ref C) (.ref C) = some true)
    (ca : PySem.W.findIn K (.ref C) "__class__" = some (some (.builtin "object.__class__"))) (sg : PySem.W.specialIn K (.builtin "object.__class__") "__get__" = some (some (.builtin "getset_descriptor.__get__"))) (tk : PySem.W.takesIn K (.builtin "object.__class__") = some true) (mo : PySem.W.mroIn K C (.type "object") = some true) : FnOk P w K mg base CX0 1 f fd ["self", "other"] (spGEqA K C) := by
  refine F.ok scEq (fun vs H Q E h => ?_) (fun cdv A outer s H vs Q E hr h => ?_)
  · obtain ⟨g, y, ns, es, rfl, _⟩ := h; rfl
  · obtain ⟨g, y, ns, es, rfl, G1, z1, o1, h⟩ := h
    refine ⟨_, pss_one (ps_ret (pe_and (pe_callB call_isi (by rfl) mi (by decide +kernel) (pa_cons (pv 1) (pa_cons (pe_glob (v := .ref C) rfl T.mg rfl) pa_nil)))
      (pe_and (pe_cmpR (op_eqD hr.units) (pe_fld (pv 0) rfl) (pe_fld (pv 1) rfl) (nomark _)) (pe_one (pe_cmpR (op_eqD hr.units) (pe_fld (pv 0) rfl) (pe_fld (pv 1) rfl) (nomark _)))))), ?_⟩
    rcases h with ⟨h, ms, fs, rfl, G2, z2, o2, k⟩ | ⟨t, ty, kt, k⟩
    rotate_left
    · exact ⟨_, rfl, _, _, t, .ref C, false, rfl, .own C, ty, kt, _, rfl, iteF k⟩
    obtain ⟨⟨dx, t1, t2, g1, g2, g3⟩, ge⟩ := id G1
    obtain ⟨⟨dy, u1, u2, h1, h2, h3⟩, he⟩ := id G2
    refine ⟨_, rfl, _, _, .ref C, .ref C, true, rfl, .own C, .base (.ins h1 T.cl ca sg tk mo), kC, _, rfl, iteT ?_⟩
    refine ⟨_, rfl, g, C, dx, _, _, rfl, g1, T.cl, T.nV, gf_v _ _, _, rfl, h, C, dy, _, _, rfl, h1, T.cl, T.nV, gf_v _ _, _, _, .tup (SqT.of g2) (dp_txts ns), .tup (SqT.of h2) (dp_txts ms), txts_shaped z1, txts_shaped z2, _, rfl, ?_⟩
    rw [eqvAll_txt]
    cases c : decide (ns = ms) with
    | false => rw [c] at k; exact iteF k
    | true =>
      rw [c] at k
      refine iteT ⟨_, rfl, g, C, dx, _, _, rfl, g1, T.cl, T.nE, gf_e _ _, _, rfl, h, C, dy, _, _, rfl, h1, T.cl, T.nE, gf_e _ _, _, _, dp_edsT g3 ge, dp_edsT h3 he, eds_shaped o1, eds_shaped o2, ?_⟩
      rw [eqvAll_eds]; exact k
end
/-- list(a text) -/
def rListS : List V → Hp → VK → Prop := fun xs H Q => ∃ z : Str, xs = [.str z] ∧ z.cps.size ≤ sizeLine ∧ ∀ l, H l = none → Q (.ref l) (L2.upd H l (.lst (z.cps.toList.map fun c => V.str ⟨#[c]⟩)))
theorem vals_signs : ∀ {l : List Nat} {as : List Value}, as.length = l.length → (∀ (j : Nat) (v : Value), as[j]? = some v → ∃ (c : Nat) (u : Tok), l[j]? = some c ∧ v = Value.str ⟨#[c]⟩ u) → Vals (l.map fun c => V.str ⟨#[c]⟩) as
  | [], [], _, _ => .nil
  | [], _ :: _, h, _ => by simp at h
  | _ :: _, [], h, _ => by simp at h
  | c :: l, v :: as, h, e => by
    obtain ⟨c', u, e1, rfl⟩ := e 0 v rfl
    cases Option.some.inj e1
    exact .cons ⟨u, rfl⟩ (vals_signs (by simpa using h) fun j v hj => e (j + 1) v hj)
theorem call_listS {X : Cx} (hc : X.calm = true) : CallR X (.type "list") rListS := by
  intro pins s σ H xs us Q I r h
  obtain ⟨z, rfl, hz, q⟩ := h
  obtain ⟨u, rfl, t, rfl⟩ := vals1 r
  refine call_list_str (I.ok.hd hc) z t (fun h' tk acc c' kp e it => ?_) hz
  have va : Vals (z.cps.toList.map fun c => V.str ⟨#[c]⟩) acc.toList := vals_signs (by simpa using it.1) fun j v hj => by
    obtain ⟨c, u, e1, e2⟩ := it.2 j v (by simpa using hj)
    exact ⟨c, u, by simpa using e1, e2⟩
  exact ⟨.ref s.heap.objs.size, _, I.laid (t' := tk) kp (Nat.le_refl _) (show ObjOk X.prog X.w _ h' _ (.lst (z.cps.toList.map fun c => V.str ⟨#[c]⟩)) from ⟨by simpa using hz, acc.toList, c', va, by simpa using e⟩), rfl, q _ (I.hok.fresh (Nat.le_refl _))⟩
end CP
/-! names sent to words: edges go to edges -/
namespace CP
open PySem L2
/-- an edge by other names, the smaller one first -/
def sendE (f : Str → Str) (e : E2) : E2 := (minS (f e.1) (f e.2), maxS (f e.1) (f e.2))
theorem min_max {u v : Str} : (minS u v = u ∧ maxS u v = v) ∨ (minS u v = v ∧ maxS u v = u) := by
  unfold minS maxS
  by_cases e : u = v
  · subst e; rw [ltS_irrefl]; exact .inl ⟨rfl, rfl⟩
  · cases h : ltS v u with
    | true => rw [ltS_asymm h]; exact .inr ⟨rfl, rfl⟩
    | false => rw [ltS_total (Ne.symm e) h]; exact .inl ⟨rfl, rfl⟩
theorem min_lt {u v : Str} (h : u ≠ v) : ltS (minS u v) (maxS u v) = true := by
  unfold minS maxS
  cases q : ltS v u with
  | true => rw [ltS_asymm q]; exact q
  | false => rw [ltS_total (Ne.symm h) q]; exact ltS_total (Ne.symm h) q
theorem send_ok {f : Str → Str} {ns ws : List Str} {e : E2} (inj : ∀ x ∈ ns, ∀ y ∈ ns, f x = f y → x = y) (inW : ∀ x ∈ ns, f x ∈ ws) (h : EdOk ns e) : EdOk ws (sendE f e) := by
  have ne : f e.1 ≠ f e.2 := fun z => by
    have := inj _ h.1 _ h.2.1 z
    have l := h.2.2
    rw [this, ltS_irrefl] at l; cases l
  refine ⟨?_, ?_, min_lt ne⟩
  · show minS (f e.1) (f e.2) ∈ ws
    rcases min_max (u := f e.1) (v := f e.2) with ⟨a, _⟩ | ⟨a, _⟩ <;> rw [a]
    · exact inW _ h.1
    · exact inW _ h.2.1
  · show maxS (f e.1) (f e.2) ∈ ws
    rcases min_max (u := f e.1) (v := f e.2) with ⟨_, a⟩ | ⟨_, a⟩ <;> rw [a]
    · exact inW _ h.2.1
    · exact inW _ h.1
theorem send_inj {f : Str → Str} {ns : List Str} {e d : E2} (inj : ∀ x ∈ ns, ∀ y ∈ ns, f x = f y → x = y) (h : EdOk ns e) (g : EdOk ns d) (q : sendE f e = sendE f d) : e = d := by
  have q1 : minS (f e.1) (f e.2) = minS (f d.1) (f d.2) := congrArg Prod.fst q
  have q2 : maxS (f e.1) (f e.2) = maxS (f d.1) (f d.2) := congrArg Prod.snd q
  have same : (f e.1 = f d.1 ∧ f e.2 = f d.2) ∨ (f e.1 = f d.2 ∧ f e.2 = f d.1) := by
    rcases min_max (u := f e.1) (v := f e.2) with ⟨a, b⟩ | ⟨a, b⟩ <;> rcases min_max (u := f d.1) (v := f d.2) with ⟨a', b'⟩ | ⟨a', b'⟩ <;> rw [a, a'] at q1 <;> rw [b, b'] at q2
    · exact .inl ⟨q1, q2⟩
    · exact .inr ⟨q1, q2⟩
    · exact .inr ⟨q2, q1⟩
    · exact .inl ⟨q2, q1⟩
  rcases same with ⟨a, b⟩ | ⟨a, b⟩
  · exact Prod.ext (inj _ h.1 _ g.1 a) (inj _ h.2.1 _ g.2.1 b)
  · have x := inj _ h.1 _ g.2.1 a
    have y := inj _ h.2.1 _ g.1 b
    have l := h.2.2
    rw [x, y, ltS_asymm g.2.2] at l; cases l
theorem send_nodup {f : Str → Str} {ns : List Str} (inj : ∀ x ∈ ns, ∀ y ∈ ns, f x = f y → x = y) : ∀ {es : List E2}, (∀ e ∈ es, EdOk ns e) → es.Nodup → (es.map (sendE f)).Nodup
  | [], _, _ => .nil
  | e :: es, h, nd => by
    obtain ⟨n1, n2⟩ := List.nodup_cons.mp nd
    refine List.nodup_cons.mpr ⟨fun z => ?_, send_nodup inj (fun d hd => h d (List.mem_cons_of_mem _ hd)) n2⟩
    obtain ⟨d, hd, q⟩ := List.mem_map.mp z
    exact n1 (send_inj inj (h d (List.mem_cons_of_mem _ hd)) (h e List.mem_cons_self) q ▸ hd)
/-- the word that stands where the name stands -/
def wordOf : List Str → List Str → Str → Str
  | n :: ns, w :: ws, z => if z = n then w else wordOf ns ws z
  | _, _, _ => ""
theorem word_in : ∀ {ns ws : List Str} {z : Str}, ns.length = ws.length → z ∈ ns → wordOf ns ws z ∈ ws
  | [], _, z, _, h => nomatch h
  | _ :: _, [], z, l, _ => by simp at l
  | n :: ns, w :: ws, z, l, h => by
    unfold wordOf
    split
    · exact List.mem_cons_self
    · rename_i c
      rcases List.mem_cons.mp h with h | h
      · exact absurd h c
      · exact List.mem_cons_of_mem _ (word_in (by simpa using l) h)
theorem word_inj : ∀ {ns ws : List Str}, ns.length = ws.length → ws.Nodup → ∀ x ∈ ns, ∀ y ∈ ns, wordOf ns ws x = wordOf ns ws y → x = y
  | [], _, _, _, x, hx, _, _, _ => nomatch hx
  | _ :: _, [], l, _, x, hx, _, _, _ => by simp at l
  | n :: ns, w :: ws, l, nd, x, hx, y, hy, e => by
    obtain ⟨n1, n2⟩ := List.nodup_cons.mp nd
    have l' : ns.length = ws.length := by simpa using l
    unfold wordOf at e
    by_cases a : x = n <;> by_cases b : y = n
    · rw [a, b]
    · rw [if_pos a, if_neg b] at e
      rcases List.mem_cons.mp hy with h | h
      · exact absurd h b
      · exact absurd (e ▸ word_in l' h) n1
    · rw [if_neg a, if_pos b] at e
      rcases List.mem_cons.mp hx with h | h
      · exact absurd h a
      · exact absurd (e ▸ word_in l' h) n1
    · rw [if_neg a, if_neg b] at e
      rcases List.mem_cons.mp hx with h | h
      · exact absurd h a
      rcases List.mem_cons.mp hy with h' | h'
      · exact absurd h' b
      exact word_inj l' n2 x h y h' e
theorem zip_look : ∀ {ns ws : List Str} {z : Str}, ns.length = ws.length → z ∈ ns → valV (zipK ns (ws.map V.str)) (.inr z) = some (.str (wordOf ns ws z))
  | [], _, z, _, h => nomatch h
  | _ :: _, [], z, l, _ => by simp at l
  | n :: ns, w :: ws, z, l, h => by
    simp only [List.map_cons, zipK, wordOf]
    unfold valV
    rw [List.find?_cons]
    by_cases c : z = n
    · subst c; rw [if_pos rfl]; simp
    · rw [if_neg c]
      have q : decide ((Sum.inr n : Key) = .inr z) = false := decide_eq_false fun e => c (Sum.inr.inj e).symm
      rcases List.mem_cons.mp h with h | h
      · exact absurd h c
      · rw [q]; exact zip_look (by simpa using l) h
end CP
/-! _law_words_right -/
namespace CP
open PySem PySem.Spec PyProof.Rows L2
abbrev sWordsR : Stmt := top 24
def spWordsR : Sp := fun vs H Q _ => ∃ (p n e : Addr) (ns : List Str) (ks : List Ed), vs = [.ref p, .ref n, .ref e] ∧ Src H p ∧ n ≠ p ∧ e ≠ p ∧ ArgsOk H n e ns ks ∧ ∀ H', Src H' p → But p H H' → Q (.bl true) H'
section
variable {P : Program} {w : World} {K : PySem.W.Frag} {mg : Str → Option Value} {base : Heap}
theorem ArgsOk.same {H H' : Hp} {a b : Addr} {ns : List Str} {ks : List Ed} (A : ArgsOk H a b ns ks) (s : Same H H') : ArgsOk H' a b ns ks := ⟨s _ _ A.na, A.n0, A.n8, A.nd, A.nm, s _ _ A.ea, fun p hp => s _ _ (A.ed p hp), A.eo, A.en, A.el⟩
theorem Src.neT {H : Hp} {p q : Addr} {xs : List V} (S : Src H p) (h : H q = some (.tup xs)) : q ≠ p := fun z => by
  obtain ⟨x, y, c, e⟩ := S
  rw [z, e] at h; cases h
theorem ArgsOk.but {H H' : Hp} {p a b : Addr} {ns : List Str} {ks : List Ed} (A : ArgsOk H a b ns ks) (S : Src H p) (na : a ≠ p) (nb : b ≠ p) (B : But p H H') : ArgsOk H' a b ns ks := ⟨B _ _ na A.na, A.n0, A.n8, A.nd, A.nm, B _ _ nb A.ea, fun q hq => B _ _ (S.neT (A.ed q hq)) (A.ed q hq), A.eo, A.en, A.el⟩
theorem name_one {c : Nat} (h : c ∈ letters.cps.toList) : NameOk ⟨#[c]⟩ := ⟨by show 0 < 1; decide, by show 1 ≤ 8; decide, fun d hd => by simp at hd; rw [hd]; exact h⟩
theorem nameZ {c : Nat} (h : c ∈ letters.cps.toList) : NameOk (("z" : Str) ++ ⟨#[c]⟩) := by
  have e : (("z" : Str) ++ (⟨#[c]⟩ : Str)).cps.toList = [122, c] := rfl
  refine ⟨by show 0 < 2; decide, by show 2 ≤ 8; decide, fun d hd => ?_⟩
  rw [e] at hd
  simp at hd
  rcases hd with rfl | rfl
  · decide +kernel
  · exact h
theorem pe_fldK {X : Cx} {K : PySem.W.Frag} {e : Expr} {f : Str} {pos : Pos} {ta : TE} (hK : X.K = K) (h : PE X e ta) (ha : attributeBase e f X.env (eval e X.env) = eval e X.env) : PE X (e.Attribute f pos) (tFld K ta f) := by
  subst hK; exact pe_fld h ha
abbrev nWordsR : List Str := ["_law_source", "_law_names", "_law_edges", "_law_words_here", "_law_table", "_law_both", "_law_some", "_law_graph_here", "_law_letter", "_law_letters", "_law_one_here", "_law_other", "_law_pair"]
theorem scWordsR : FnScope nWordsR ["_law_source", "_law_names", "_law_edges"] (defScope sWordsR) := ⟨rfl, rfl, rfl, by decide +kernel, rfl, by decide +kernel, by decide +kernel⟩
theorem ok_wordsR {f fW fO fI C : Addr} {fd fdW fdO fdI : FuncData} (F : Fun K "_law_words_right" "_law_words_right" sWordsR f fd) (T : GTxt K mg C) (ml : mg "len" = none) (md : mg "dict" = none) (mz : mg "zip" = none) (mmin : mg "min" = none) (mmax : mg "max" = none) (mt : mg "tuple" = none) (mso : mg "sorted" = none) (mli : mg "list" = none)
    (mW : mg "_law_words" = some (.ref fW)) (GW : FnOk P w K mg base CX0 3 fW fdW ["_law_source", "_law_many"] spWords) (kW : PySem.W.keepIn K (.ref fW) = true) (bW : Binds K fdW ["_law_source", "_law_many"] [])
    (mO : mg "_law_one" = some (.ref fO)) (GO : FnOk P w K mg base CX0 2 fO fdO ["_law_source", "_law_some"] spOneS) (kO : PySem.W.keepIn K (.ref fO) = true) (bO : Binds K fdO ["_law_source", "_law_some"] [])
    (MI : Mk K C fI) (GI : FnOk P w K mg base CX0 4 fI fdI ["self", "vertices", "edges"] (spInit C)) (bI : Binds K fdI ["self", "vertices", "edges"] []) :
    FnOk P w K mg base CX0 6 f fd ["_law_source", "_law_names", "_law_edges"] spWordsR := by
  refine F.ok scWordsR (fun vs H Q E h => ?_) (fun cdv A outer s H vs Q E hr h => ?_)
  · obtain ⟨p, n, e, ns, ks, rfl, _⟩ := h; rfl
  · obtain ⟨p, n, e, ns, ks, rfl, S0, np, ep, A0, k⟩ := h
    have hr2 : Room 2 _ := hr.mono (by decide)
    have hr3 : Room 3 _ := hr.mono (by decide)
    have hu1 := Nat.lt_of_le_of_lt (Nat.add_le_add_left (by decide : 1 ≤ 64) _) hr.units
    have hr5 : Room 5 _ := hr.mono (by decide)
    refine ⟨_, pss_cons (ps_set (i := 3) scWordsR.nd rfl (Or.inl rfl) (pe_call GW hr3 rfl mW kW bW .nil pass0 (pa_cons (pv 0) (pa_cons (pe_callB call_len_seq (by rfl) ml PySem.boot_len (pa_cons (pv 1) pa_nil)) pa_nil))))
      (pss_cons (ps_set (i := 4) scWordsR.nd rfl (Or.inr rfl) (pe_dictzip rfl (by rfl) md (by rfl) mz (pa_cons (pv 1) (pa_cons (pv 3) pa_nil))))
      (pss_cons (ps_setLc (i := 5) (own := [("_law_one_here", 10), ("_law_other", 11)]) (g := gTup K 2 (gCons (gName 10) (gCons (gName 11) gNil))) rfl scWordsR.nd rfl rfl (sw_true rfl rfl rfl (by decide +kernel)) (pi_list (pv 2)) (blkOk_by (own := [("_law_one_here", 10), ("_law_other", 11)]) (N := nWordsR) (sc := defScope sWordsR) (by decide +kernel))
          (fun _ _ _ _ _ => pg_tup rfl (pgs_cons (pg_name (i := 10) scWordsR.nd rfl (Or.inl rfl)) (pgs_cons (pg_name (i := 11) scWordsR.nd rfl (Or.inl rfl)) pgs_nil))) (fun _ _ _ _ _ => pts_nil) (fun _ _ _ _ _ => pe_tup (pa_cons (pe_dget hu1 (pv 4) (pv 10) (fun _ _ => rfl)) (pa_cons (pe_dget hu1 (pv 4) (pv 11) (fun _ _ => rfl)) pa_nil))))
      (pss_cons (ps_setLc (i := 6) (own := [("_law_pair", 12)]) (g := gName 12) rfl scWordsR.nd rfl rfl (sw_true rfl rfl rfl (by decide +kernel)) (pi_list (pv 5)) (blkOk_by (own := [("_law_pair", 12)]) (N := nWordsR) (sc := defScope sWordsR) (by decide +kernel))
          (fun _ _ _ _ _ => pg_name (i := 12) scWordsR.nd rfl (Or.inl rfl)) (fun _ _ _ _ _ => pts_nil) (fun _ _ _ _ _ => pe_tup (pa_cons (pe_callB (call_minT rfl hr.units) (by rfl) mmin (by decide +kernel) (pa_cons (pv 12) pa_nil)) (pa_cons (pe_callB (call_maxT rfl hr.units) (by rfl) mmax (by decide +kernel) (pa_cons (pv 12) pa_nil)) pa_nil))))
      (pss_cons (ps_set (i := 7) scWordsR.nd rfl (Or.inl rfl) (pe_make MI GI hr5 rfl T.mg bI .nil pass0 (pa_cons (pv 3) (pa_cons (pv 6) pa_nil))))
      (pss_cons (ps_if (PW.pt (pw_or (pt_cmpR (op_neD hr.units) (pe_fld (pv 7) rfl) (pe_callTy call_tuple_of (by rfl) mt (by decide +kernel) (pa_cons (pv 3) pa_nil)) (nomark _))
          (pw_or1 (pt_cmpR (op_neD hr.units) (pe_fld (pv 7) rfl) (pe_callTy call_tuple_of (by rfl) mt (by decide +kernel) (pa_cons (pe_callB (cr_sortER hr.units) (by rfl) mso (by decide +kernel) (pa_cons (pv 6) pa_nil)) pa_nil)) (nomark _))))) (pss_one (ps_ret pe_bl)) pss_nil)
      (pss_cons (ps_set (i := 8) scWordsR.nd rfl (Or.inr rfl) (pe_call GO hr2 rfl mO kO bO .nil pass0 (pa_cons (pv 0) (pa_cons pe_str pa_nil))))
      (pss_cons (ps_set (i := 9) scWordsR.nd rfl (Or.inl rfl) (pe_callTy (call_listS rfl) (by rfl) mli (by decide +kernel) (pa_cons pe_str pa_nil)))
      (pss_one (ps_ret (pe_cmpR (op_eqD hr.units) (pe_lc (own := [("_law_one_here", 10)]) (g := gName 10) rfl scWordsR.nd (pi_list (pv 9)) (blkOk_by (own := [("_law_one_here", 10)]) (N := nWordsR) (sc := defScope sWordsR) (by decide +kernel))
          (fun _ _ _ _ _ => pg_name (i := 10) scWordsR.nd rfl (Or.inl rfl)) (fun _ _ _ _ _ => pts_one (pt_cmpR (r := rNeD K) (op_neD hr.units) (pe_fldK (K := K) rfl (pe_make MI GI hr5 rfl T.mg bI .nil pass0 (pa_cons (pe_lst (pa_cons (pv 10) (pa_cons (pe_op op_add_str pe_str (pv 8)) pa_nil))) (pa_cons (pe_lst pa_nil) pa_nil))) rfl) (pe_tup (pa_cons (pv 10) (pa_cons (pe_op op_add_str pe_str (pv 8)) pa_nil))) (nomark _))) (fun _ _ _ _ _ => pv 10)) (pe_lst pa_nil) (nomark _))))))))))), ?_⟩
    have n8 := A0.n8
    refine ⟨_, rfl, _, rfl, n, _, rfl, .inl (SqL.of A0.na), ?_⟩
    refine ⟨p, _, rfl, S0, by rw [List.length_map]; omega, fun l ws H1 hl hl1 wnd wlen wok S1 B1 => ?_⟩
    rw [List.length_map] at wlen
    have lp := S0.ne hl
    have A1 := A0.but S0 np ep B1
    refine ⟨_, rfl, _, rfl, n, l, ns, _, rfl, SqL.of A1.na, SqL.of hl1, A1.nd, fun d hd => ?_⟩
    have s2 : Same H1 (L2.upd H1 d (.dK (zipK ns (ws.map V.str)))) := Same.new hd
    have d2 : L2.upd H1 d (.dK (zipK ns (ws.map V.str))) d = some (.dK (zipK ns (ws.map V.str))) := upd_same
    generalize L2.upd H1 d (.dK (zipK ns (ws.map V.str))) = H2 at s2 d2 ⊢
    have A2 := A1.same s2
    have look : ∀ z, z ∈ ns → valV (zipK ns (ws.map V.str)) (.inr z) = some (.str (wordOf ns ws z)) := fun z hz => zip_look wlen.symm hz
    refine ⟨_, rfl, e, rfl, ⟨_, SqL.of A2.ea⟩, fun D hD => lc_list (K := K) (a := e) (xs := ks.map fun p => V.ref p.1) (fun j H' => Same H2 H' ∧ EdsAt H' D ((ks.take j).map fun q => (wordOf ns ws q.2.1, wordOf ns ws q.2.2)))
        ⟨Same.new hD, [], upd_same, (fun _ z => nomatch z), rfl⟩ (fun j H' _ ⟨s, _⟩ => SqL.of (s _ _ A2.ea)) ?_ ?_⟩
    · rintro j y H3 hj ⟨s3, R3⟩
      have lj : j < ks.length := by have := (List.getElem?_eq_some_iff.mp hj).1; rw [List.length_map] at this; exact this
      rw [List.getElem?_map, List.getElem?_eq_getElem lj] at hj
      obtain rfl : V.ref ks[j].1 = y := Option.some.inj hj
      have tk : ks.take (j + 1) = ks.take j ++ [ks[j]] := take_one (List.getElem?_eq_getElem lj)
      have mj : ks[j] ∈ ks := List.getElem_mem lj
      have ej := s3 _ _ (A2.ed _ mj)
      have oj := A2.eo _ mj
      refine ⟨ks[j].1, _, rfl, SqT.of ej, rfl, _, _, rfl, _, _, rfl, rfl, rfl, ?_⟩
      refine ⟨_, rfl, _, rfl, d, _, rfl, .inl ⟨_, .inr ks[j].2.1, Rd.of (s3 _ _ d2), rfl, (look _ oj.1).symm⟩, ?_⟩
      refine ⟨_, rfl, _, rfl, d, _, rfl, .inl ⟨_, .inr ks[j].2.2, Rd.of (s3 _ _ d2), rfl, (look _ oj.2.1).symm⟩, ?_⟩
      refine ⟨by show 2 ≤ sizeLine; decide, fun t ht => ?_⟩
      have s4 : Same H3 (L2.upd H3 t (.tup [.str (wordOf ns ws ks[j].2.1), .str (wordOf ns ws ks[j].2.2)])) := Same.new ht
      obtain ⟨zs, z1, z2, z3⟩ := (R3.kept s4).push (t := t) upd_same
      refine ⟨zs, z1, ?_, Same.grow hD (s3.trans s4), ?_⟩
      · rw [z2, List.length_map, sizeLine_eq]
        have := A2.el
        rw [List.length_take]; omega
      · rw [tk, List.map_append]; exact z3
    rintro H3 ⟨s3, R3⟩
    rw [List.length_map, List.take_length] at R3
    obtain ⟨bs, b1, b2, b3⟩ := id R3
    have bl : bs.length = ks.length := by have := congrArg List.length b3; simpa using this
    refine ⟨_, rfl, D, rfl, ⟨_, SqL.of b1⟩, fun D2 hD2 => lc_list (K := K) (a := D) (xs := bs.map fun p => V.ref p.1) (fun j H' => Same H3 H' ∧ EdsAt H' D2 ((bs.take j).map fun q => (minS q.2.1 q.2.2, maxS q.2.1 q.2.2)))
        ⟨Same.new hD2, [], upd_same, (fun _ z => nomatch z), rfl⟩ (fun j H' _ ⟨s, _⟩ => SqL.of (s _ _ b1)) ?_ ?_⟩
    · rintro j y H4 hj ⟨s4, R4⟩
      have lj : j < bs.length := by have := (List.getElem?_eq_some_iff.mp hj).1; rw [List.length_map] at this; exact this
      rw [List.getElem?_map, List.getElem?_eq_getElem lj] at hj
      obtain rfl : V.ref bs[j].1 = y := Option.some.inj hj
      have tk : bs.take (j + 1) = bs.take j ++ [bs[j]] := take_one (List.getElem?_eq_getElem lj)
      have ej := s4 _ _ (b2 _ (List.getElem_mem lj))
      refine ⟨rfl, _, rfl, bs[j].1, _, _, rfl, ej, _, rfl, bs[j].1, _, _, rfl, ej, ?_⟩
      refine ⟨by show 2 ≤ sizeLine; decide, fun t ht => ?_⟩
      have s5 : Same H4 (L2.upd H4 t (.tup [.str (minS bs[j].2.1 bs[j].2.2), .str (maxS bs[j].2.1 bs[j].2.2)])) := Same.new ht
      obtain ⟨zs, z1, z2, z3⟩ := (R4.kept s5).push (t := t) upd_same
      refine ⟨zs, z1, ?_, Same.grow hD2 (s4.trans s5), ?_⟩
      · rw [z2, List.length_map, sizeLine_eq]
        have := A2.el
        rw [List.length_take]; omega
      · rw [tk, List.map_append]; exact z3
    rintro H4 ⟨s4, R4⟩
    rw [List.length_map, List.take_length] at R4
    have R4 : EdsAt H4 D2 ((ks.map (·.2)).map (sendE (wordOf ns ws))) := by
      have q : (bs.map fun q => (minS q.2.1 q.2.2, maxS q.2.1 q.2.2)) = (ks.map (·.2)).map (sendE (wordOf ns ws)) := by
        have : (bs.map fun q => (minS q.2.1 q.2.2, maxS q.2.1 q.2.2)) = (bs.map (·.2)).map fun x => (minS x.1 x.2, maxS x.1 x.2) := by simp
        rw [this, b3]; simp [sendE]
      rw [← q]; exact R4
    obtain ⟨es, e1, e2, e3⟩ := id R4
    have s24 := (s2.trans s3).trans s4
    have inW : ∀ x ∈ ns, wordOf ns ws x ∈ ws := fun x hx => word_in wlen.symm hx
    have inj := word_inj (ns := ns) (ws := ws) wlen.symm wnd
    have eoW : ∀ q ∈ es, EdOk ws q.2 := fun q hq => by
      have : q.2 ∈ (ks.map (·.2)).map (sendE (wordOf ns ws)) := e3 ▸ List.mem_map.mpr ⟨q, hq, rfl⟩
      obtain ⟨x, hx, ex⟩ := List.mem_map.mp this
      obtain ⟨r, hr', rfl⟩ := List.mem_map.mp hx
      rw [← ex]; exact send_ok inj inW (A0.eo r hr')
    have enW : (es.map (·.2)).Nodup := by
      rw [e3]
      exact send_nodup inj (fun x hx => by obtain ⟨r, hr', rfl⟩ := List.mem_map.mp hx; exact A0.eo r hr') A0.en
    have elW : es.length = ks.length := by have := congrArg List.length e3; simpa using this
    have AW : ArgsOk H4 l D2 ws es := ⟨s24 _ _ hl1, by rw [wlen]; exact A0.n0, by rw [wlen]; exact n8, wnd, wok, e1, e2, eoW, enW, by rw [elW]; exact A0.el⟩
    refine ⟨_, rfl, _, rfl, fun g dx hg hdx gdx => ?_⟩
    have sg : Same H4 (L2.upd (L2.upd H4 dx (.own g)) g (.ins C dx [])) := fun b o x => by rw [upd_ne (ne_of_none x hg), upd_ne (ne_of_none x hdx)]; exact x
    refine ⟨g, dx, l, D2, ws, es, rfl, upd_same, AW.row.same sg, fun H5 G5 k5 => ⟨rfl, ?_⟩⟩
    have s45 : Same H4 H5 := Same.made hg hdx fun c o x n => k5 c o n x
    have S4 := S1.but s24
    have S5 := S4.but s45
    have AW5 := AW.same s45
    obtain ⟨⟨dx', t1, t2, g1, g2, g3⟩, ge⟩ := id G5
    have zW : ∀ z ∈ ws, PyData.strOk z = true := fun z hz => (wok z hz).strOk
    have okW : ∀ x ∈ (sortE es).map (·.2), OkE x := fun x hx => by
      obtain ⟨q, hq, rfl⟩ := List.mem_map.mp hx
      have o := eoW q ((sortE_perm es).mem_iff.mp hq)
      exact ⟨zW _ o.1, zW _ o.2.1⟩
    refine ⟨_, rfl, g, C, dx', _, _, rfl, g1, T.cl, T.nV, gf_v _ _, _, rfl, l, _, rfl, .inl ⟨SqL.of AW5.na, fun tA hA => ?_⟩⟩
    have s56 : Same H5 (L2.upd H5 tA (.tup (ws.map V.str))) := Same.new hA
    have eA : L2.upd H5 tA (.tup (ws.map V.str)) tA = some (.tup (ws.map V.str)) := upd_same
    generalize L2.upd H5 tA (.tup (ws.map V.str)) = H6 at s56 eA ⊢
    refine ⟨_, _, .tup (SqT.of (s56 _ _ g2)) (dp_txts ws), .tup (SqT.of eA) (dp_txts ws), txts_shaped zW, txts_shaped zW, _, rfl, ?_⟩
    rw [eqvAll_txt, decide_eq_true rfl]
    refine iteF ?_
    refine ⟨_, rfl, g, C, dx', _, _, rfl, s56 _ _ g1, T.cl, T.nE, gf_e _ _, _, rfl, D2, es, rfl, .inl (s56 _ _ AW5.ea), (fun q hq => s56 _ _ (AW5.ed q hq)), by have := AW5.el; omega, fun L hL => ?_⟩
    have s67 : Same H6 (L2.upd H6 L (.lst ((sortE es).map fun p => V.ref p.1))) := Same.new hL
    have eL : L2.upd H6 L (.lst ((sortE es).map fun p => V.ref p.1)) L = some (.lst ((sortE es).map fun p => V.ref p.1)) := upd_same
    generalize L2.upd H6 L (.lst ((sortE es).map fun p => V.ref p.1)) = H7 at s67 eL ⊢
    refine ⟨L, _, rfl, .inl ⟨SqL.of eL, fun tB hB => ?_⟩⟩
    have s78 : Same H7 (L2.upd H7 tB (.tup ((sortE es).map fun p => V.ref p.1))) := Same.new hB
    have eB : L2.upd H7 tB (.tup ((sortE es).map fun p => V.ref p.1)) tB = some (.tup ((sortE es).map fun p => V.ref p.1)) := upd_same
    generalize L2.upd H7 tB (.tup ((sortE es).map fun p => V.ref p.1)) = H8 at s78 eB ⊢
    have s58 := (s56.trans s67).trans s78
    have ed8 : ∀ q ∈ sortE es, EdAt H8 q := fun q hq => s58 _ _ (ge q hq)
    refine ⟨_, _, dp_edsT (s58 _ _ g3) ed8, dp_edsT eB ed8, eds_shaped okW, eds_shaped okW, _, rfl, ?_⟩
    rw [eqvAll_eds, decide_eq_true rfl]
    refine iteF ?_
    have s18 : Same H1 H8 := (s24.trans s45).trans s58
    obtain ⟨x8, y8, z8, hS8⟩ := S5.but s58
    refine ⟨_, rfl, p, y8, (x8, z8), rfl, hS8, fun H9 S9 B9 => ?_⟩
    generalize hst : stp y8 26 (x8, z8) = st at S9 ⊢
    have rg := stp_range (y := y8) (m := 26) (s := (x8, z8)) (by decide)
    rw [hst] at rg
    generalize hcl : ch st.1 = cl
    have clin : cl ∈ letters.cps.toList := hcl ▸ (ch_in rg.1 rg.2).1
    refine ⟨letters, rfl, by show letters.cps.size ≤ _; rw [sizeLine_eq]; decide +kernel, fun LL hLL => ?_⟩
    have s9a : Same H9 (L2.upd H9 LL (.lst (letters.cps.toList.map fun c => V.str ⟨#[c]⟩))) := Same.new hLL
    have eLL : L2.upd H9 LL (.lst (letters.cps.toList.map fun c => V.str ⟨#[c]⟩)) LL = some (.lst (letters.cps.toList.map fun c => V.str ⟨#[c]⟩)) := upd_same
    generalize L2.upd H9 LL (.lst (letters.cps.toList.map fun c => V.str ⟨#[c]⟩)) = Ha at s9a eLL ⊢
    refine ⟨_, rfl, LL, rfl, ⟨_, SqL.of eLL⟩, fun D3 hD3 => lc_list (K := K) (a := LL) (xs := letters.cps.toList.map fun c => V.str ⟨#[c]⟩) (fun j H' => Same Ha H' ∧ H' D3 = some (.lst []))
        ⟨Same.new hD3, upd_same⟩ (fun j H' _ ⟨s, _⟩ => SqL.of (s _ _ eLL)) ?_ ?_⟩
    rotate_left
    · rintro Hb ⟨sab, eb⟩
      refine ⟨by show 0 ≤ sizeLine; exact Nat.zero_le _, fun E0' hE0 => ?_⟩
      have sbc : Same Hb (L2.upd Hb E0' (.lst [])) := Same.new hE0
      refine ⟨_, _, .lst (SqL.of (sbc _ _ eb)) .nil, .lst (SqL.of upd_same) .nil, rfl, rfl, ?_⟩
      have q : (PyData.list []).eqv (PyData.list []) = true := rfl
      rw [q]
      refine k _ (Src.but (H := H9) ⟨_, _, _, S9⟩ ((s9a.trans sab).trans sbc)) ?_
      exact ((B1.trans (But.of_same s18)).trans B9).trans (But.of_same ((s9a.trans sab).trans sbc))
    · rintro j y Hb hj ⟨sab, eb⟩
      rw [List.getElem?_map] at hj
      obtain ⟨c, hc, rfl⟩ : ∃ c, letters.cps.toList[j]? = some c ∧ V.str ⟨#[c]⟩ = y := by
        cases q : letters.cps.toList[j]? with
        | none => rw [q] at hj; cases hj
        | some c => rw [q] at hj; exact ⟨c, rfl, Option.some.inj hj⟩
      have cin : c ∈ letters.cps.toList := List.mem_of_getElem? hc
      clear hj hc
      have n1 : NameOk ⟨#[c]⟩ := name_one cin
      have n2 : NameOk (("z" : Str) ++ ⟨#[cl]⟩) := nameZ clin
      refine ⟨rfl, ?_⟩
      refine ⟨_, rfl, _, rfl, _, _, rfl, rfl, by show 1 + 1 ≤ sizeLine; decide, ?_⟩
      refine ⟨by show 2 ≤ sizeLine; decide, fun a1 ha1 => ?_⟩
      have sb1 : Same Hb (L2.upd Hb a1 (.lst [.str ⟨#[c]⟩, .str (("z" : Str) ++ ⟨#[cl]⟩)])) := Same.new ha1
      have ea1 : L2.upd Hb a1 (.lst [.str ⟨#[c]⟩, .str (("z" : Str) ++ ⟨#[cl]⟩)]) a1 = some (.lst [.str ⟨#[c]⟩, .str (("z" : Str) ++ ⟨#[cl]⟩)]) := upd_same
      generalize L2.upd Hb a1 (.lst [.str ⟨#[c]⟩, .str (("z" : Str) ++ ⟨#[cl]⟩)]) = Hc at sb1 ea1 ⊢
      refine ⟨Nat.zero_le _, fun a2 ha2 => ?_⟩
      have sb2 : Same Hc (L2.upd Hc a2 (.lst [])) := Same.new ha2
      have ea2 : L2.upd Hc a2 (.lst []) a2 = some (.lst []) := upd_same
      generalize L2.upd Hc a2 (.lst []) = Hd at sb2 ea2 ⊢
      intro g' dx2 hg' hdx2 _
      have sg' : Same Hd (L2.upd (L2.upd Hd dx2 (.own g')) g' (.ins C dx2 [])) := fun b o x => by rw [upd_ne (ne_of_none x hg'), upd_ne (ne_of_none x hdx2)]; exact x
      have AZ : ArgsR Hd a1 a2 [⟨#[c]⟩, ("z" : Str) ++ ⟨#[cl]⟩] [] := ⟨.inl (sb2 _ _ ea1), by show 0 < 2; decide, by show 2 ≤ 8; decide, by
          refine List.nodup_cons.mpr ⟨fun z => ?_, List.nodup_cons.mpr ⟨(fun z => nomatch z), .nil⟩⟩
          simp only [List.mem_cons, List.not_mem_nil, or_false] at z
          have := congrArg (fun s : Str => s.cps.size) z
          exact absurd this (by show ¬ (1 = 2); decide), fun z hz => by
          simp only [List.mem_cons, List.not_mem_nil, or_false] at hz
          rcases hz with rfl | rfl
          · exact n1
          · exact n2, .inl ea2, (fun _ z => nomatch z), (fun _ z => nomatch z), .nil, Nat.zero_le _⟩
      refine ⟨g', dx2, a1, a2, _, _, rfl, upd_same, AZ.same sg', fun He Ge ke => ⟨rfl, ?_⟩⟩
      have sde : Same Hd He := Same.made hg' hdx2 fun c o x n => ke c o n x
      obtain ⟨⟨dx3, t3, t4, q1, q2, q3⟩, _⟩ := id Ge
      refine ⟨g', C, dx3, _, _, rfl, q1, T.cl, T.nV, gf_v _ _, ?_⟩
      refine ⟨_, rfl, _, rfl, _, _, rfl, rfl, by show 1 + 1 ≤ sizeLine; decide, by show 2 ≤ sizeLine; decide, fun t5 ht5 => ?_⟩
      have sef : Same He (L2.upd He t5 (.tup ([⟨#[c]⟩, ("z" : Str) ++ ⟨#[cl]⟩].map V.str))) := Same.new ht5
      have z2 : ∀ z ∈ ([⟨#[c]⟩, ("z" : Str) ++ ⟨#[cl]⟩] : List Str), PyData.strOk z = true := fun z hz => (AZ.nm z hz).strOk
      refine ⟨_, _, .tup (SqT.of (sef _ _ q2)) (dp_txts _), .tup (SqT.of upd_same) (dp_txts [⟨#[c]⟩, ("z" : Str) ++ ⟨#[cl]⟩]), txts_shaped z2, txts_shaped z2, _, rfl, ?_⟩
      rw [eqvAll_txt, decide_eq_true rfl]
      have sbf := ((sb1.trans sb2).trans sde).trans sef
      exact iteF ⟨sab.trans sbf, sbf _ _ eb⟩
end
end CP
/-! _law_alike_right -/
namespace CP
open PySem PySem.Spec PyProof.Rows L2
abbrev sAlike : Stmt := top 25
def spAlike (C : Addr) : Sp := fun vs H Q _ => ∃ (p n e g : Addr) (ns : List Str) (ks : List Ed), vs = [.ref p, .ref n, .ref e, .ref g] ∧ Src H p ∧ n ≠ p ∧ e ≠ p ∧ ArgsOk H n e ns ks ∧ (∀ z ∈ ns, z ∈ base8) ∧ GrAt C H g ns (sortE ks) ∧ ∀ H', Src H' p → But p H H' → Q (.bl true) H'
theorem sortE_same {ks js : List Ed} (h : js.Perm ks) (nd : (ks.map (·.2)).Nodup) : sortE js = sortE ks :=
  asc_unique (((sortE_perm js).trans h).trans (sortE_perm ks).symm) (sortE_lt ((h.map _).nodup_iff.mpr nd)) (sortE_lt nd)
theorem GrAt.but {C a : Addr} {H H' : Hp} {g : Addr} {ns : List Str} {es : List Ed} (S : Src H a) (B : But a H H') (G : GrAt C H g ns es) : GrAt C H' g ns es := by
  obtain ⟨⟨dx, t1, t2, e1, e2, e3⟩, ed⟩ := G
  obtain ⟨x, y, z, q⟩ := id S
  exact ⟨⟨dx, t1, t2, B _ _ (ne_of e1 q (fun z => by cases z)) e1, B _ _ (ne_of e2 q (fun z => by cases z)) e2, B _ _ (ne_of e3 q (fun z => by cases z)) e3⟩, fun p hp => EdAt.but S B (ed p hp)⟩
theorem rev_one : ∀ {ns : List Str}, ns.Nodup → ns = ns.reverse → ns.length ≤ 1
  | [], _, _ => Nat.zero_le _
  | [_], _, _ => Nat.le_refl _
  | a :: b :: l, nd, e => by
    have h : (a :: b :: l)[0]? = ((b :: l).reverse ++ [a])[0]? := by rw [← List.reverse_cons, ← e]
    have : 0 < (b :: l).reverse.length := by simp
    rw [List.getElem?_append_left this] at h
    have m : a ∈ (b :: l).reverse := List.mem_of_getElem? h.symm
    exact absurd (List.mem_reverse.mp m) (List.nodup_cons.mp nd).1
theorem ifQ_k {c : TT} {t u b : TS} {D : Ends} {σ : L2.St} {H : Hp} (R : L2.St → Hp → Prop) (hk : ∀ σ' H', R σ' H' → b D σ' H') (h : (∀ σ' H', R σ' H' → b D σ' H') → tSeq (tIfS c t u) b D σ H) : tSeq (tIfS c t u) b D σ H := h hk
theorem eds_shapedL {es : List E2} (h : ∀ e ∈ es, OkE e) : SeqAt.shaped (.list (es.map encE)) = true := by
  have c1 : (PyData.list (es.map encE)).canLay0 = true := by simp [PyData.canLay0, eds_lay h]
  have c2 : (PyData.list (es.map encE)).depth = PyData.depthAll (es.map encE) + 1 := by first | rfl | simp [PyData.depth, Nat.add_comm]
  have := eds_depth es
  unfold SeqAt.shaped; rw [c1, c2]; simp; omega
theorem dp_edsL {K : PySem.W.Frag} {H : Hp} {t : Addr} {es : List Ed} (h : H t = some (.lst (es.map fun p => V.ref p.1))) (he : ∀ p ∈ es, EdAt H p) : Dp K H (.ref t) (.list ((es.map (·.2)).map encE)) := by
  have := dp_edges (K := K) he
  rw [List.map_map]; exact .lst (SqL.of h) this
theorem cut_eds {ks : List Ed} : cutV (ks.map fun p => V.ref p.1) (some 1) none = (ks.drop 1).map fun p => V.ref p.1 := by
  cases ks with
  | nil => rfl
  | cons q ks =>
    unfold cutV
    simp [HT.sIx]
    exact List.take_of_length_le (by simp)
theorem nameOther : NameOk "other" := ⟨by decide +kernel, by decide +kernel, by decide +kernel⟩
theorem made {C a b : Addr} {H : Hp} {ms : List Str} {fs : List Ed} {Q : Addr → Hp → Prop} (A : ArgsR H a b ms fs) (q : ∀ g' H', H g' = none → GrAt C H' g' ms (sortE fs) → Same H H' → Q g' H') : ∀ x dx : Addr, H x = none → H dx = none → dx ≠ x → spInit C [.ref x, .ref a, .ref b] (L2.upd (L2.upd H dx (.own x)) x (.ins C dx [])) (fun v H2 => v = .non ∧ Q x H2) E0 := by
  intro x dx hx hdx _
  have sg : Same H (L2.upd (L2.upd H dx (.own x)) x (.ins C dx [])) := fun b o y => by rw [upd_ne (ne_of_none y hx), upd_ne (ne_of_none y hdx)]; exact y
  exact ⟨x, dx, a, b, ms, fs, rfl, upd_same, A.same sg, fun H' G' k' => ⟨rfl, q x H' hx G' (Same.made hx hdx fun c o y n => k' c o n y)⟩⟩
theorem ArgsR.okn {H : Hp} {a b : Addr} {ns : List Str} {ks : List Ed} (A : ArgsR H a b ns ks) : ∀ z ∈ ns, PyData.strOk z = true := fun z hz => (A.nm z hz).strOk
theorem ArgsR.oke {H : Hp} {a b : Addr} {ns : List Str} {ks : List Ed} (A : ArgsR H a b ns ks) : ∀ x ∈ (sortE ks).map (·.2), OkE x := fun x hx => by
  obtain ⟨q, hq, rfl⟩ := List.mem_map.mp hx
  have o := A.eo q ((sortE_perm ks).mem_iff.mp hq)
  exact ⟨A.okn _ o.1, A.okn _ o.2.1⟩
theorem eqG {K : PySem.W.Frag} {C g h : Addr} {H : Hp} {ns ms : List Str} {es fs : List Ed} {Q : VK} (G : GrAt C H g ns es) (z1 : ∀ z ∈ ns, PyData.strOk z = true) (o1 : ∀ e ∈ es.map (·.2), OkE e) (G2 : GrAt C H h ms fs) (z2 : ∀ z ∈ ms, PyData.strOk z = true) (o2 : ∀ e ∈ fs.map (·.2), OkE e) (q : Q (.bl (decide (ns = ms) && decide (es.map (·.2) = fs.map (·.2)))) H) : rEqI K C (spGEqA K C) (.ref g) (.ref h) H Q := by
  obtain ⟨dx, t1, t2, g1, _⟩ := G.ob
  obtain ⟨dy, u1, u2, h1, _⟩ := G2.ob
  exact ⟨g, dx, _, rfl, g1, .inl ⟨h, dy, _, rfl, h1⟩, g, _, ns, es, rfl, G, z1, o1, .inl ⟨h, ms, fs, rfl, G2, z2, o2, _, rfl, q⟩⟩
theorem neG {K : PySem.W.Frag} {C g h : Addr} {H : Hp} {ns ms : List Str} {es fs : List Ed} {Q : VK} (G : GrAt C H g ns es) (z1 : ∀ z ∈ ns, PyData.strOk z = true) (o1 : ∀ e ∈ es.map (·.2), OkE e) (G2 : GrAt C H h ms fs) (z2 : ∀ z ∈ ms, PyData.strOk z = true) (o2 : ∀ e ∈ fs.map (·.2), OkE e) (q : Q (.bl (!(decide (ns = ms) && decide (es.map (·.2) = fs.map (·.2))))) H) : rNeI C (spGEqA K C) (.ref g) (.ref h) H Q := by
  obtain ⟨dx, t1, t2, g1, _⟩ := G.ob
  obtain ⟨dy, u1, u2, h1, _⟩ := G2.ob
  exact ⟨g, h, dx, dy, _, _, rfl, rfl, g1, h1, g, _, ns, es, rfl, G, z1, o1, .inl ⟨h, ms, fs, rfl, G2, z2, o2, _, rfl, q⟩⟩
theorem eqO {K : PySem.W.Frag} {C g : Addr} {y : V} {T : String} {H : Hp} {ns : List Str} {es : List Ed} {Q : VK} (G : GrAt C H g ns es) (z1 : ∀ z ∈ ns, PyData.strOk z = true) (o1 : ∀ e ∈ es.map (·.2), OkE e) (tb : TyB K H y T) (tx : TyX K H y (.type T)) (nf : PySem.W.notFirst K C (.type T) = true) (kf : PySem.W.kitOne K (.type T) (.ref C) = some false) (q : Q (.bl false) H) : rEqI K C (spGEqA K C) (.ref g) y H Q := by
  obtain ⟨dx, t1, t2, g1, _⟩ := G.ob
  exact ⟨g, dx, _, rfl, g1, .inr ⟨T, tb, nf⟩, g, _, ns, es, rfl, G, z1, o1, .inr ⟨_, tx, kf, _, rfl, q⟩⟩
section
variable {P : Program} {w : World} {K : PySem.W.Frag} {mg : Str → Option Value} {base : Heap}
abbrev nAlike : List Str := ["_law_source", "_law_names", "_law_edges", "_law_graph_here", "_law_things", "_law_thing"]
theorem scAlike : FnScope nAlike ["_law_source", "_law_names", "_law_edges", "_law_graph_here"] (defScope sAlike) := ⟨rfl, rfl, rfl, by decide +kernel, rfl, by decide +kernel, by decide +kernel⟩
theorem ok_alike {f fM fI fQ C : Addr} {fd fdM fdI fdQ : FuncData} (F : Fun K "_law_alike_right" "_law_alike_right" sAlike f fd) (T : GTxt K mg C) (ml : mg "len" = none) (mt : mg "tuple" = none)
    (mM : mg "_law_mixed" = some (.ref fM)) (GM : FnOk P w K mg base CX0 2 fM fdM ["_law_source", "_law_some"] (spMixed K)) (kM : PySem.W.keepIn K (.ref fM) = true) (bM : Binds K fdM ["_law_source", "_law_some"] [])
    (GQ : FnOk P w K mg base CX0 1 fQ fdQ ["self", "other"] (spGEqA K C)) (heq : PySem.W.findIn K (.ref C) "__eq__" = some (some (.ref fQ))) (hfn : PySem.W.isFn K (.ref fQ) = true) (hne : PySem.W.findIn K (.ref C) "__ne__" = some (some (.builtin "object.__ne__"))) (bQ : Binds K fdQ ["self", "other"] []) (hmo : PySem.W.mroIn K C (.type "object") = some true)
    (nf : ∀ t ∈ ["NoneType", "int", "str", "tuple", "list"], PySem.W.notFirst K C (.type t) = true) (kf : ∀ t ∈ ["NoneType", "int", "str", "tuple", "list"], PySem.W.kitOne K (.type t) (.ref C) = some false)
    (MI : Mk K C fI) (GI : FnOk P w K mg base CX0 4 fI fdI ["self", "vertices", "edges"] (spInit C)) (bI : Binds K fdI ["self", "vertices", "edges"] []) :
    FnOk P w K mg base CX0 6 f fd ["_law_source", "_law_names", "_law_edges", "_law_graph_here"] (spAlike C) := by
  refine F.ok scAlike (fun vs H Q E h => ?_) (fun cdv A outer s H vs Q E hr h => ?_)
  · obtain ⟨p, n, e, g, ns, ks, rfl, _⟩ := h; rfl
  · obtain ⟨p, n, e, g, ns, ks, rfl, S0, np, ep, A0, nb, G0, k⟩ := h
    have hr1 : Room 1 _ := hr.mono (by decide)
    have hr2 : Room 2 _ := hr.mono (by decide)
    have hr5 : Room 5 _ := hr.mono (by decide)
    refine ⟨_, pss_cons (ps_if (pt_cmpR (op_neI GQ hr2 heq hfn hne bQ hmo) (pv 3) (pe_make MI GI hr5 rfl T.mg bI .nil pass0 (pa_cons (pe_callTy call_tuple_of (by rfl) mt (by decide +kernel) (pa_cons (pv 1) pa_nil)) (pa_cons (pe_callTy call_tuple_of (by rfl) mt (by decide +kernel) (pa_cons (pe_call GM hr2 rfl mM kM bM .nil pass0 (pa_cons (pv 0) (pa_cons (pv 2) pa_nil))) pa_nil)) pa_nil))) (nomark _)) (pss_one (ps_ret pe_bl)) pss_nil)
      (pss_cons (ps_if (pt_cmpR op_ne (pe_cmpR (op_eqI GQ hr1 heq hfn bQ) (pv 3) (pe_make MI GI hr5 rfl T.mg bI .nil pass0 (pa_cons (pe_revL (pv 1)) (pa_cons (pv 2) pa_nil))) (nomark _)) (pe_cmpR op_eq (pe_callB call_len_seq (by rfl) ml PySem.boot_len (pa_cons (pv 1) pa_nil)) pe_int (nomark _)) (nomark _)) (pss_one (ps_ret pe_bl)) pss_nil)
      (pss_cons (ps_if (PW.pt (pw_and (pt_cmpR (op_neD hr.units) (pv 2) (pe_lst pa_nil) (nomark _)) (pw_and1 (pt_cmpR (op_eqI GQ hr1 heq hfn bQ) (pv 3) (pe_make MI GI hr5 rfl T.mg bI .nil pass0 (pa_cons (pv 1) (pa_cons (pe_slice sl_list (pv 2) (po_some pe_int) po_none) pa_nil))) (nomark _))))) (pss_one (ps_ret pe_bl)) pss_nil)
      (pss_cons (ps_if (PW.pt (pw_and (pt_cmpR op_lt (pe_callB call_len_seq (by rfl) ml PySem.boot_len (pa_cons (pv 1) pa_nil)) pe_int (nomark _)) (pw_and1 (pt_cmpR (op_eqI GQ hr1 heq hfn bQ) (pv 3) (pe_make MI GI hr5 rfl T.mg bI .nil pass0 (pa_cons (pe_op op_cat (pv 1) (pe_lst (pa_cons pe_str pa_nil))) (pa_cons (pv 2) pa_nil))) (nomark _))))) (pss_one (ps_ret pe_bl)) pss_nil)
      (pss_cons (ps_set (i := 4) scAlike.nd rfl (Or.inl rfl) (pe_lst (pa_cons pe_non (pa_cons pe_int (pa_cons pe_str (pa_cons (pe_callTy call_tuple_of (by rfl) mt (by decide +kernel) (pa_cons (pv 1) pa_nil)) (pa_cons (pe_tup (pa_cons (pe_callTy call_tuple_of (by rfl) mt (by decide +kernel) (pa_cons (pv 1) pa_nil)) (pa_cons (pe_fld (pv 3) rfl) pa_nil))) (pa_cons (pe_lst (pa_cons (pv 3) pa_nil)) pa_nil))))))))
      (pss_one (ps_ret (pe_cmpR (op_eqD hr.units) (pe_lc (own := [("_law_thing", 5)]) (g := gName 5) rfl scAlike.nd (pi_list (pv 4)) (blkOk_by (own := [("_law_thing", 5)]) (N := nAlike) (sc := defScope sAlike) (by decide +kernel))
          (fun _ _ _ _ _ => pg_name (i := 5) scAlike.nd rfl (Or.inl rfl)) (fun _ _ _ _ _ => pts_one (pt_cmpR (r := rEqI K C (spGEqA K C)) (op_eqI GQ hr1 heq hfn bQ) (pv 3) (pv 5) (nomark _))) (fun _ _ _ _ _ => pv 5)) (pe_lst pa_nil) (nomark _)))))))), ?_⟩
    have zn := A0.row.okn
    have oe := A0.row.oke
    refine ⟨_, rfl, _, rfl, n, _, rfl, .inl ⟨SqL.of A0.na, fun tA hA => ?_⟩⟩
    have s1 : Same H (L2.upd H tA (.tup (ns.map V.str))) := Same.new hA
    have eA : L2.upd H tA (.tup (ns.map V.str)) tA = some (.tup (ns.map V.str)) := upd_same
    generalize L2.upd H tA (.tup (ns.map V.str)) = H1 at s1 eA ⊢
    have A1 := A0.same s1
    have S1 := S0.but s1
    refine ⟨_, rfl, _, rfl, p, e, _, rfl, S1, ep.symm, A1.ea, fun x hx => ?_, by have := A1.el; rw [List.length_map]; omega, fun m ys H2 pm hm hm2 S2 B2 => ?_⟩
    · obtain ⟨q, hq, rfl⟩ := List.mem_map.mp hx
      have o := A1.eo q hq
      exact Item.edge (A1.ed q hq) (zn _ o.1) (zn _ o.2.1)
    obtain ⟨js, pj, rfl⟩ := perm_map pm ks rfl
    have A2 := A1.but S1 np ep B2
    have G2 := (G0.same s1).but S1 B2
    have eA2 := B2 _ _ (S1.neT eA) eA
    refine ⟨m, _, rfl, .inl ⟨SqL.of hm2, fun tB hB => ?_⟩⟩
    have s3 : Same H2 (L2.upd H2 tB (.tup (js.map fun p => V.ref p.1))) := Same.new hB
    have eB : L2.upd H2 tB (.tup (js.map fun p => V.ref p.1)) tB = some (.tup (js.map fun p => V.ref p.1)) := upd_same
    generalize L2.upd H2 tB (.tup (js.map fun p => V.ref p.1)) = H3 at s3 eB ⊢
    have A3 := A2.same s3
    have AR : ArgsR H3 tA tB ns js := ⟨.inr (s3 _ _ eA2), A3.n0, A3.n8, A3.nd, A3.nm, .inr eB, fun q hq => A3.ed q (pj.mem_iff.mp hq), fun q hq => A3.eo q (pj.mem_iff.mp hq), (pj.map _).nodup_iff.mpr A3.en, by rw [pj.length_eq]; exact A3.el⟩
    refine made AR fun g' H4 hg' G4 s4 => ?_
    rw [sortE_same pj A3.en] at G4
    refine neG ((G2.same s3).same s4) zn oe G4 zn oe ⟨_, rfl, ?_⟩
    rw [decide_eq_true rfl, decide_eq_true rfl]
    refine iteF ?_
    have A4 := A3.same s4
    have S4 := (S2.but s3).but s4
    have G4 := (G2.same s3).same s4
    have B4 : But p H H4 := ((But.of_same s1).trans B2).trans (But.of_same (s3.trans s4))
    clear A3 AR s3 eB hB eA2 A2 B2 hm2 hm hA s1 eA A1 S1 S2 G2 G0
    refine ⟨_, rfl, _, rfl, n, _, rfl, SqL.of A4.na, fun rv hrv => ?_⟩
    have s5 : Same H4 (L2.upd H4 rv (.lst (ns.map V.str).reverse)) := Same.new hrv
    have eR : L2.upd H4 rv (.lst (ns.map V.str).reverse) rv = some (.lst (ns.reverse.map V.str)) := by rw [upd_same, List.map_reverse]
    generalize L2.upd H4 rv (.lst (ns.map V.str).reverse) = H5 at s5 eR ⊢
    have A5 := A4.same s5
    have AR5 : ArgsR H5 rv e ns.reverse ks := ⟨.inl eR, by rw [List.length_reverse]; exact A5.n0, by rw [List.length_reverse]; exact A5.n8, (List.reverse_perm ns).nodup_iff.mpr A5.nd, fun z hz => A5.nm z (List.mem_reverse.mp hz), .inl A5.ea, A5.ed, fun q hq => ⟨List.mem_reverse.mpr (A5.eo q hq).1, List.mem_reverse.mpr (A5.eo q hq).2.1, (A5.eo q hq).2.2⟩, A5.en, A5.el⟩
    refine ⟨_, rfl, ?_⟩
    refine made AR5 fun g2 H6 hg2 G6 s6 => ?_
    refine eqG ((G4.same s5).same s6) zn oe G6 AR5.okn AR5.oke ?_
    have A6 := A5.same s6
    refine ⟨_, rfl, n, _, rfl, .inl (SqL.of A6.na), ?_⟩
    refine ⟨rfl, ?_⟩
    refine ⟨rfl, ?_⟩
    have same : (decide (ns = ns.reverse) && decide ((sortE ks).map (·.2) = (sortE ks).map (·.2))) = decide (V.int ((ns.map V.str).length : Nat) = V.int 1) := by
      rw [decide_eq_true (p := (sortE ks).map (·.2) = (sortE ks).map (·.2)) rfl, Bool.and_true, List.length_map]
      by_cases c : ns.length = 1
      · rw [c]
        obtain ⟨z, rfl⟩ := List.length_eq_one_iff.mp c
        rw [decide_eq_true (show [z] = [z].reverse from rfl), decide_eq_true (show V.int ((1 : Nat) : Int) = V.int 1 from rfl)]
      · have c1 : ¬ (ns = ns.reverse) := fun z => by have := rev_one A6.nd z; have := A6.n0; omega
        have c2 : ¬ (V.int (ns.length : Nat) = V.int 1) := fun z => by injection z with z; omega
        rw [decide_eq_false c1, decide_eq_false c2]
    rw [same, decide_eq_true rfl]
    refine ⟨_, rfl, iteF ?_⟩
    have s46 := s5.trans s6
    have G6' := G4.same s46
    have S6 := S4.but s46
    have B6 := B4.trans (But.of_same s46)
    clear same AR5 A5 eR s5 G6 s6 hg2 s46 G4 S4 B4 A4
    have oek : ∀ x ∈ ks.map (·.2), OkE x := fun x hx => oe x (((sortE_perm ks).map _).mem_iff.mpr hx)
    dsimp only [tNext]
    refine ifQ_k (fun σ' H' => σ' = [some (.ref p), some (.ref n), some (.ref e), some (.ref g), none, none] ∧ ArgsOk H' n e ns ks ∧ GrAt C H' g ns (sortE ks) ∧ Src H' p ∧ But p H H') ?_ (fun rest => ?_)
    rotate_left
    · refine ⟨_, rfl, Nat.zero_le _, fun l0 hl0 => ?_⟩
      have s7 : Same H6 (L2.upd H6 l0 (.lst [])) := Same.new hl0
      have e7 : L2.upd H6 l0 (.lst []) l0 = some (.lst []) := upd_same
      generalize L2.upd H6 l0 (.lst []) = H7 at s7 e7 ⊢
      have A7 := A6.same s7
      have G7 := G6'.same s7
      have S7 := S6.but s7
      have B7 := B6.trans (But.of_same s7)
      refine ⟨_, _, dp_edsL A7.ea A7.ed, .lst (SqL.of e7) .nil, eds_shapedL oek, rfl, _, rfl, ?_⟩
      cases hks : ks with
      | nil =>
        rw [hks] at A7 G7
        exact iteF (rest _ _ ⟨rfl, hks ▸ A7, hks ▸ G7, S7, B7⟩)
      | cons k0 kt =>
        refine iteT ?_
        refine ⟨_, rfl, _, rfl, _, rfl, _, rfl, e, _, rfl, SqL.of A7.ea, fun sl hsl => ?_⟩
        rw [cut_eds]
        have s8 : Same H7 (L2.upd H7 sl (.lst ((ks.drop 1).map fun p => V.ref p.1))) := Same.new hsl
        have e8 : L2.upd H7 sl (.lst ((ks.drop 1).map fun p => V.ref p.1)) sl = some (.lst ((ks.drop 1).map fun p => V.ref p.1)) := upd_same
        generalize L2.upd H7 sl (.lst ((ks.drop 1).map fun p => V.ref p.1)) = H8 at s8 e8 ⊢
        have A8 := A7.same s8
        have AR8 : ArgsR H8 n sl ns (ks.drop 1) := ⟨.inl A8.na, A8.n0, A8.n8, A8.nd, A8.nm, .inl e8, fun q hq => A8.ed q (List.mem_of_mem_drop hq), fun q hq => A8.eo q (List.mem_of_mem_drop hq), ((List.drop_sublist 1 ks).map _).nodup A8.en, by rw [List.length_drop]; have := A8.el; omega⟩
        refine made AR8 fun g3 H9 hg3 G9 s9 => ?_
        refine eqG ((G7.same s8).same s9) zn oe G9 AR8.okn AR8.oke ⟨_, rfl, ?_⟩
        have df : ¬ ((sortE ks).map (·.2) = (sortE (ks.drop 1)).map (·.2)) := fun z => by
          have := congrArg List.length z
          rw [List.length_map, List.length_map, (sortE_perm ks).length_eq, (sortE_perm _).length_eq, List.length_drop, hks] at this
          simp at this
        rw [decide_eq_false df, Bool.and_false]
        have s79 := s8.trans s9
        exact iteF (rest _ _ ⟨rfl, A7.same s79, G7.same s79, S7.but s79, B7.trans (But.of_same s79)⟩)
    clear A6 G6' S6 B6
    rintro σ' H7 ⟨rfl, A7, G7, S7, B7⟩
    refine ifQ_k (fun σ' H' => σ' = [some (.ref p), some (.ref n), some (.ref e), some (.ref g), none, none] ∧ ArgsOk H' n e ns ks ∧ GrAt C H' g ns (sortE ks) ∧ Src H' p ∧ But p H H') ?_ (fun rest => ?_)
    rotate_left
    · refine ⟨_, rfl, n, _, rfl, .inl (SqL.of A7.na), _, _, rfl, rfl, _, rfl, ?_⟩
      rw [List.length_map]
      by_cases c8 : ((ns.length : Nat) : Int) < 8
      · rw [decide_eq_true c8]
        refine iteT ⟨_, rfl, _, rfl, by show 1 ≤ sizeLine; decide, fun lo hlo => ?_⟩
        have s8 : Same H7 (L2.upd H7 lo (.lst [.str "other"])) := Same.new hlo
        have e8 : L2.upd H7 lo (.lst [.str "other"]) lo = some (.lst [.str "other"]) := upd_same
        generalize L2.upd H7 lo (.lst [.str "other"]) = H8 at s8 e8 ⊢
        have A8 := A7.same s8
        refine ⟨n, lo, _, _, rfl, rfl, A8.na, e8, by rw [List.length_map, sizeLine_eq]; show ns.length + 1 ≤ _; omega, fun ll hll => ?_⟩
        have s9 : Same H8 (L2.upd H8 ll (.lst (ns.map V.str ++ [.str "other"]))) := Same.new hll
        have e9 : L2.upd H8 ll (.lst (ns.map V.str ++ [.str "other"])) ll = some (.lst ((ns ++ [("other" : Str)]).map V.str)) := by rw [upd_same, List.map_append]; rfl
        generalize L2.upd H8 ll (.lst (ns.map V.str ++ [.str "other"])) = H9 at s9 e9 ⊢
        have A9 := A8.same s9
        have other : ("other" : Str) ∉ ns := fun z => absurd (nb _ z) (by decide +kernel)
        have AR9 : ArgsR H9 ll e (ns ++ [("other" : Str)]) ks := ⟨.inl e9, by rw [List.length_append]; have := A9.n0; omega, by rw [List.length_append]; show ns.length + 1 ≤ 8; omega, List.nodup_append.mpr ⟨A9.nd, List.nodup_cons.mpr ⟨(fun z => nomatch z), .nil⟩, fun x hx y hy z => by simp at hy; rw [z, hy] at hx; exact other hx⟩,
          fun z hz => by
            rcases List.mem_append.mp hz with h | h
            · exact A9.nm z h
            · simp at h; rw [h]; exact nameOther, .inl A9.ea, A9.ed, fun q hq => ⟨List.mem_append_left _ (A9.eo q hq).1, List.mem_append_left _ (A9.eo q hq).2.1, (A9.eo q hq).2.2⟩, A9.en, A9.el⟩
        refine ⟨_, rfl, ?_⟩
        refine made AR9 fun g3 Ha hg3 Ga sa => ?_
        have s7a := (s8.trans s9).trans sa
        refine eqG (G7.same s7a) zn oe Ga AR9.okn AR9.oke ⟨_, rfl, ?_⟩
        have df : ¬ (ns = ns ++ [("other" : Str)]) := fun z => by
          have := congrArg List.length z
          simp at this
        rw [decide_eq_false df, Bool.false_and]
        exact iteF (rest _ _ ⟨rfl, A7.same s7a, G7.same s7a, S7.but s7a, B7.trans (But.of_same s7a)⟩)
      · rw [decide_eq_false c8]
        exact iteF (rest _ _ ⟨rfl, A7, G7, S7, B7⟩)
    clear A7 G7 S7 B7
    rintro σ' H8 ⟨rfl, A8, G8, S8, B8⟩
    obtain ⟨⟨dx, u1, u2, g1, g2, g3⟩, ge⟩ := id G8
    refine ⟨_, rfl, n, _, rfl, .inl ⟨SqL.of A8.na, fun tC hC => ?_⟩⟩
    have s9 : Same H8 (L2.upd H8 tC (.tup (ns.map V.str))) := Same.new hC
    have eC : L2.upd H8 tC (.tup (ns.map V.str)) tC = some (.tup (ns.map V.str)) := upd_same
    generalize L2.upd H8 tC (.tup (ns.map V.str)) = H9 at s9 eC ⊢
    have A9 := A8.same s9
    refine ⟨_, rfl, n, _, rfl, .inl ⟨SqL.of A9.na, fun tD hD => ?_⟩⟩
    have s10 : Same H9 (L2.upd H9 tD (.tup (ns.map V.str))) := Same.new hD
    generalize L2.upd H9 tD (.tup (ns.map V.str)) = H10 at s10 ⊢
    refine ⟨_, rfl, g, C, dx, _, _, rfl, s10 _ _ (s9 _ _ g1), T.cl, T.nE, gf_e _ _, by show 2 ≤ sizeLine; decide, fun tE hE => ?_⟩
    have s11 : Same H10 (L2.upd H10 tE (.tup [.ref tD, .ref u2])) := Same.new hE
    have eE : L2.upd H10 tE (.tup [.ref tD, .ref u2]) tE = some (.tup [.ref tD, .ref u2]) := upd_same
    generalize L2.upd H10 tE (.tup [.ref tD, .ref u2]) = H11 at s11 eE ⊢
    refine ⟨_, rfl, by show 1 ≤ sizeLine; decide, fun lF hF => ?_⟩
    have s12 : Same H11 (L2.upd H11 lF (.lst [.ref g])) := Same.new hF
    have eF : L2.upd H11 lF (.lst [.ref g]) lF = some (.lst [.ref g]) := upd_same
    generalize L2.upd H11 lF (.lst [.ref g]) = H12 at s12 eF ⊢
    refine ⟨by show 6 ≤ sizeLine; decide, fun LT hLT => ?_⟩
    have s13 : Same H12 (L2.upd H12 LT (.lst [.non, .int 5, .str "graph", .ref tC, .ref tE, .ref lF])) := Same.new hLT
    have eT : L2.upd H12 LT (.lst [.non, .int 5, .str "graph", .ref tC, .ref tE, .ref lF]) LT = some (.lst [.non, .int 5, .str "graph", .ref tC, .ref tE, .ref lF]) := upd_same
    generalize L2.upd H12 LT (.lst [.non, .int 5, .str "graph", .ref tC, .ref tE, .ref lF]) = H13 at s13 eT ⊢
    have s813 := (((s9.trans s10).trans s11).trans s12).trans s13
    have eC' := s13 _ _ (s12 _ _ (s11 _ _ (s10 _ _ eC)))
    have eE' := s13 _ _ (s12 _ _ eE)
    have eF' := s13 _ _ eF
    have G13 := G8.same s813
    refine ⟨_, rfl, LT, rfl, ⟨_, SqL.of eT⟩, fun D hD => lc_list (K := K) (a := LT) (xs := [.non, .int 5, .str "graph", .ref tC, .ref tE, .ref lF]) (fun j H' => Same H13 H' ∧ H' D = some (.lst []))
        ⟨Same.new hD, upd_same⟩ (fun j H' _ ⟨s, _⟩ => SqL.of (s _ _ eT)) ?_ ?_⟩
    rotate_left
    · rintro Hb ⟨sab, eb⟩
      refine ⟨Nat.zero_le _, fun E0' hE0 => ?_⟩
      have sbc : Same Hb (L2.upd Hb E0' (.lst [])) := Same.new hE0
      refine ⟨_, _, .lst (SqL.of (sbc _ _ eb)) .nil, .lst (SqL.of upd_same) .nil, rfl, rfl, ?_⟩
      have q : (PyData.list []).eqv (PyData.list []) = true := rfl
      rw [q]
      have sall := (s813.trans sab).trans sbc
      exact k _ (S8.but sall) (B8.trans (But.of_same sall))
    · rintro j y Hb hj ⟨sab, eb⟩
      have my := List.mem_of_getElem? hj
      clear hj
      have ty : ∃ T ∈ ["NoneType", "int", "str", "tuple", "list"], TyB K Hb y T ∧ TyX K Hb y (.type T) := by
        simp only [List.mem_cons, List.not_mem_nil, or_false] at my
        rcases my with rfl | rfl | rfl | rfl | rfl | rfl
        · exact ⟨"NoneType", by simp, .non, .base .non⟩
        · exact ⟨"int", by simp, .int _, .base (.int _)⟩
        · exact ⟨"str", by simp, .str _, .base (.str _)⟩
        · exact ⟨"tuple", by simp, .tup (SqT.of (sab _ _ eC')), .base (.tup (sab _ _ eC'))⟩
        · exact ⟨"tuple", by simp, .tup (SqT.of (sab _ _ eE')), .base (.tup (sab _ _ eE'))⟩
        · exact ⟨"list", by simp, .lst (SqL.of (sab _ _ eF')), .base (.lst (sab _ _ eF'))⟩
      obtain ⟨t, ht, tb, tx⟩ := ty
      refine ⟨rfl, _, rfl, _, rfl, ?_⟩
      refine eqO (G13.same sab) zn oe tb tx (nf t ht) (kf t ht) ⟨_, rfl, ?_⟩
      exact iteF ⟨sab, eb⟩
end
end CP
/-! the law -/
namespace CP
open PySem PySem.Spec PyProof.Rows L2
abbrev sCell : Stmt := top 17
abbrev sLaw : Stmt := top 26
theorem Same.but {a : Addr} {H0 H H' : Hp} (s : Same H0 H) (h : H0 a = none) (B : But a H H') : Same H0 H' := fun c o e => B c o (ne_of_none e h) (s c o e)
theorem cut_ints (ns : List Int) (lo hi : Option Int) : ∃ ms : List Int, cutV (ns.map V.int) lo hi = ms.map V.int ∧ ms.length ≤ ns.length := by
  unfold cutV
  refine ⟨(ns.drop (HT.sIx (ns.map V.int).length 0 lo)).take (HT.sIx (ns.map V.int).length (ns.map V.int).length hi - HT.sIx (ns.map V.int).length 0 lo), by rw [List.map_take, List.map_drop], ?_⟩
  rw [List.length_take, List.length_drop]; omega
theorem GrAt.keep2 {C x1 x2 : Addr} {H H' : Hp} {g : Addr} {ns : List Str} {es : List Ed} {u v : List V} (G : GrAt C H g ns es) (kp : ∀ b o, b ≠ x1 → b ≠ x2 → H b = some o → H' b = some o) (h1 : H x1 = some (.lst u)) (h2 : H x2 = some (.lst v)) : GrAt C H' g ns es := by
  obtain ⟨⟨dx, t1, t2, e1, e2, e3⟩, ed⟩ := G
  have at2 : ∀ b o, (∀ w, o ≠ .lst w) → H b = some o → H' b = some o := fun b o no hb => kp b o (fun z => by rw [z, h1] at hb; exact no _ (Option.some.inj hb).symm) (fun z => by rw [z, h2] at hb; exact no _ (Option.some.inj hb).symm) hb
  exact ⟨⟨dx, t1, t2, at2 _ _ (fun _ z => by cases z) e1, at2 _ _ (fun _ z => by cases z) e2, at2 _ _ (fun _ z => by cases z) e3⟩, fun p hp => at2 _ _ (fun _ z => by cases z) (ed p hp)⟩
/-- both lists, as data -/
def twoD (ns : List Str) (es : List E2) : PyData := .list [.list (ns.map PyData.str), .list (es.map encE)]
theorem twoD_shaped {ns : List Str} {es : List E2} (h : ∀ z ∈ ns, PyData.strOk z = true) (o : ∀ e ∈ es, OkE e) : SeqAt.shaped (twoD ns es) = true := by
  have c1 := txts_lay h
  have c2 := eds_lay o
  have d1 := txts_depth ns
  have d2 := eds_depth es
  have a : (twoD ns es).canLay0 = true := by simp [twoD, PyData.canLay0, PyData.canLayAll0, c1, c2]
  have b : (twoD ns es).depth ≤ 64 := by
    simp only [twoD, PyData.depth, PyData.depthAll] at d1 ⊢; omega
  unfold SeqAt.shaped; rw [a, decide_eq_true b]; rfl
theorem eqL_txt (ns : List Str) : PyData.eqv (.list (ns.map PyData.str)) (.list (ns.map PyData.str)) = true := by
  have := eqvAll_txt ns ns
  rw [decide_eq_true rfl] at this
  simpa [PyData.eqv] using this
theorem eqL_eds (es : List E2) : PyData.eqv (.list (es.map encE)) (.list (es.map encE)) = true := by
  have := eqvAll_eds es es
  rw [decide_eq_true rfl] at this
  simpa [PyData.eqv] using this
theorem twoD_eqv (ns : List Str) (es : List E2) : (twoD ns es).eqv (twoD ns es) = true := by
  have a := eqL_txt ns
  have b := eqL_eds es
  simp only [twoD, PyData.eqv, PyData.eqvAll] at a b ⊢
  simp [a, b]
def spCell (K : PySem.W.Frag) : Sp := fun vs H Q _ => ∃ (a : Addr) (ns : List Int), vs = [.ref a, .int 0] ∧ SqL K H a (ns.map V.int) ∧ ∀ c : Int, Q (.int c) H
def spLaw (K : PySem.W.Frag) : Sp := fun vs H Q _ => ∃ (a : Addr) (ns : List Int), vs = [.ref a] ∧ SqL K H a (ns.map V.int) ∧ ns.length ≤ 63 ∧ ∀ H', Q (.bl true) H'
section
variable {P : Program} {w : World} {K : PySem.W.Frag} {mg : Str → Option Value} {base : Heap}
theorem scCell : FnScope ["_law_script", "_law_k"] ["_law_script", "_law_k"] (defScope sCell) := ⟨rfl, rfl, rfl, by decide +kernel, rfl, by decide +kernel, by decide +kernel⟩
theorem ok_cell {f : Addr} {fd : FuncData} (F : Fun K "_law_cell_at" "_law_cell_at" sCell f fd) (mlen : mg "len" = none) : FnOk P w K mg base CX0 1 f fd ["_law_script", "_law_k"] (spCell K) := by
  refine F.ok scCell (fun vs H Q E h => ?_) (fun cdv A outer s H vs Q E hr h => ?_)
  · obtain ⟨a, ns, rfl, _⟩ := h; rfl
  · obtain ⟨a, ns, rfl, hS, k⟩ := h
    refine ⟨_, pss_cons (ps_if (pt_cmpR op_lt (pv 1) (pe_callB call_len_seq (by rfl) mlen PySem.boot_len (pa_cons (pv 0) pa_nil)) (nomark _)) (pss_one (ps_ret (pe_ix ix_list (pv 0) (pv 1) (fun _ _ => rfl)))) pss_nil) (pss_one (ps_ret pe_int)), ?_⟩
    refine ⟨_, rfl, _, rfl, a, _, rfl, .inl hS, _, _, rfl, rfl, _, rfl, ?_⟩
    by_cases c : (0 : Int) < ((ns.map V.int).length : Int)
    · rw [decide_eq_true c]
      refine iteT ?_
      cases ns with
      | nil => simp at c
      | cons n ns => exact ⟨_, rfl, _, rfl, a, _, _, _, rfl, rfl, hS, atI_nat (j := 0) rfl, k n⟩
    · rw [decide_eq_false c]
      exact iteF (k 0)
abbrev nLaw : List Str := ["_law_script", "_law_cell", "_law_source", "_law_names", "_law_edges", "_law_passed", "_law_graph_here"]
theorem scLaw : FnScope nLaw ["_law_script"] (defScope sLaw) := ⟨rfl, rfl, rfl, by decide +kernel, rfl, by decide +kernel, by decide +kernel⟩
theorem ok_law {f fC fS fG fA fW fI C : Addr} {fd fdC fdS fdG fdA fdW fdI : FuncData} (F : Fun K "law" "law" sLaw f fd) (T : GTxt K mg C) (mt : mg "tuple" = none) (mso : mg "sorted" = none) (mli : mg "list" = none)
    (mC : mg "_law_cell_at" = some (.ref fC)) (GC : FnOk P w K mg base CX0 1 fC fdC ["_law_script", "_law_k"] (spCell K)) (kC : PySem.W.keepIn K (.ref fC) = true) (bC : Binds K fdC ["_law_script", "_law_k"] [])
    (mS : mg "_law_source_of" = some (.ref fS)) (GS : FnOk P w K mg base CX0 1 fS fdS ["_law_cell"] spSource) (kS : PySem.W.keepIn K (.ref fS) = true) (bS : Binds K fdS ["_law_cell"] [])
    (mG : mg "_law_graph" = some (.ref fG)) (GG : FnOk P w K mg base CX0 3 fG fdG ["_law_source", "_law_most"] spGraph) (kG : PySem.W.keepIn K (.ref fG) = true) (bG : Binds K fdG ["_law_source", "_law_most"] [])
    (mA : mg "_law_alike_right" = some (.ref fA)) (GA : FnOk P w K mg base CX0 6 fA fdA ["_law_source", "_law_names", "_law_edges", "_law_graph_here"] (spAlike C)) (kA : PySem.W.keepIn K (.ref fA) = true) (bA : Binds K fdA ["_law_source", "_law_names", "_law_edges", "_law_graph_here"] [])
    (mW : mg "_law_words_right" = some (.ref fW)) (GW : FnOk P w K mg base CX0 6 fW fdW ["_law_source", "_law_names", "_law_edges"] spWordsR) (kW : PySem.W.keepIn K (.ref fW) = true) (bW : Binds K fdW ["_law_source", "_law_names", "_law_edges"] [])
    (MI : Mk K C fI) (GI : FnOk P w K mg base CX0 4 fI fdI ["self", "vertices", "edges"] (spInit C)) (bI : Binds K fdI ["self", "vertices", "edges"] []) :
    FnG P w K mg base 7 f fd ["_law_script"] (spLaw K) := by
  refine okG F scLaw (fun vs H Q E h => ?_) (fun cdv A outer s H vs Q E hr gds h => ?_)
  · obtain ⟨a, ns, rfl, _⟩ := h; rfl
  · obtain ⟨a, sc, rfl, hA, h63, k⟩ := h
    have hr1 : Room 1 _ := hr.mono (by decide)
    have hr3 : Room 3 _ := hr.mono (by decide)
    have hr5 : Room 5 _ := hr.mono (by decide)
    refine ⟨_, pss_cons (ps_for PassesOwn.never rfl (pi_list (pe_op op_cat (pe_lst (pa_cons (pe_call GC hr1 rfl mC kC bC .nil pass0 (pa_cons (pv 0) (pa_cons pe_int pa_nil))) pa_nil)) (pe_slice sl_list (pv 0) (po_some pe_int) (po_some pe_int)))) (pg_name (i := 1) scLaw.nd rfl (Or.inl rfl))
        (pss_cons (ps_set (i := 2) scLaw.nd rfl (Or.inl rfl) (pe_call GS hr1 rfl mS kS bS .nil pass0 (pa_cons (pv 1) pa_nil)))
        (pss_cons (ps_asg (pe_call GG hr3 rfl mG kG bG .nil pass0 (pa_cons (pv 2) (pa_cons pe_int pa_nil))) (pg_tup rfl (pgs_cons (pg_name (i := 3) scLaw.nd rfl (Or.inl rfl)) (pgs_cons (pg_name (i := 4) scLaw.nd rfl (Or.inl rfl)) pgs_nil))))
        (pss_cons (ps_set (i := 5) scLaw.nd rfl (Or.inl rfl) (pe_lst (pa_cons (pe_callTy call_list_of (by rfl) mli (by decide +kernel) (pa_cons (pv 3) pa_nil)) (pa_cons (pe_callTy call_list_of (by rfl) mli (by decide +kernel) (pa_cons (pv 4) pa_nil)) pa_nil))))
        (pss_cons (ps_set (i := 6) scLaw.nd rfl (Or.inl rfl) (pe_make MI GI hr5 rfl T.mg bI .nil pass0 (pa_cons (pe_ix ix_list (pv 5) pe_int (fun _ _ => rfl)) (pa_cons (pe_ix ix_list (pv 5) pe_int (fun _ _ => rfl)) pa_nil))))
        (pss_cons (ps_if (pt_cmpR (op_neD hr.units) (pv 5) (pe_lst (pa_cons (pv 3) (pa_cons (pv 4) pa_nil))) (nomark _)) (pss_one (ps_ret pe_bl)) pss_nil)
        (pss_cons (ps_expr (pe_bm0 PySem.F.plainAttrs_list PySem.F.slot_list_reverse PySem.F.type_list_reverse mt_reverse (pe_ix ix_list (pv 5) pe_int (fun _ _ => rfl))))
        (pss_cons (ps_expr (pe_bm PySem.F.plainAttrs_list PySem.F.slot_list_append PySem.F.type_list_append mt_append (pe_ix ix_list (pv 5) pe_int (fun _ _ => rfl)) (pa_cons pe_str pa_nil)))
        (pss_cons (ps_expr (pe_bm0 PySem.F.plainAttrs_list PySem.F.slot_list_clear PySem.F.type_list_clear mt_clear (pe_ix ix_list (pv 5) pe_int (fun _ _ => rfl))))
        (pss_cons (ps_if (PW.pt (pw_or (pt_cmpR (op_neD hr.units) (pe_fld (pv 6) rfl) (pe_callTy call_tuple_of (by rfl) mt (by decide +kernel) (pa_cons (pv 3) pa_nil)) (nomark _))
          (pw_or1 (pt_cmpR (op_neD hr.units) (pe_fld (pv 6) rfl) (pe_callTy call_tuple_of (by rfl) mt (by decide +kernel) (pa_cons (pe_callB (cr_sortER hr.units) (by rfl) mso (by decide +kernel) (pa_cons (pv 4) pa_nil)) pa_nil)) (nomark _))))) (pss_one (ps_ret pe_bl)) pss_nil)
        (pss_one (ps_if (PW.pt (pw_or (pt_not (pt_val (pe_call GA hr rfl mA kA bA .nil pass0 (pa_cons (pv 2) (pa_cons (pv 3) (pa_cons (pv 4) (pa_cons (pv 6) pa_nil)))))))
          (pw_or1 (pt_not (pt_val (pe_call GW hr rfl mW kW bW .nil pass0 (pa_cons (pv 2) (pa_cons (pv 3) (pa_cons (pv 4) pa_nil))))))))) (pss_one (ps_ret pe_bl)) pss_nil))))))))))))
      (pss_one (ps_ret pe_bl)), ?_⟩
    refine ⟨_, rfl, a, sc, rfl, hA, fun c0 => ?_⟩
    refine ⟨by show 1 ≤ sizeLine; decide, fun l1 hl1 => ?_⟩
    have s1 : Same H (L2.upd H l1 (.lst [.int c0])) := Same.new hl1
    obtain ⟨ms, em, lm⟩ := cut_ints sc (some 1) (some 6)
    refine ⟨_, rfl, _, rfl, _, rfl, a, _, rfl, s1.seq hA, fun l2 hl2 => ?_⟩
    rw [em]
    have s2 : Same (L2.upd H l1 (.lst [.int c0])) (L2.upd (L2.upd H l1 (.lst [.int c0])) l2 (.lst (ms.map V.int))) := Same.new hl2
    refine ⟨l1, l2, _, _, rfl, rfl, s2 _ _ upd_same, upd_same, by rw [List.length_map, sizeLine_eq]; show 1 + ms.length ≤ _; omega, fun L hL => ?_⟩
    generalize hH0 : L2.upd (L2.upd (L2.upd H l1 (.lst [.int c0])) l2 (.lst (ms.map V.int))) L (.lst ([V.int c0] ++ ms.map V.int)) = H0
    have L0 : H0 L = some (.lst ((c0 :: ms).map V.int)) := by rw [← hH0]; exact upd_same
    refine ⟨L, rfl, ⟨_, SqL.of L0⟩, for_list (K := K) (a := L) (xs := (c0 :: ms).map V.int) (fun i σ H' => (∃ v1 v2 v3 v4 v5 v6, σ = [some (.ref a), v1, v2, v3, v4, v5, v6]) ∧ Same H0 H')
      ⟨⟨_, _, _, _, _, _, rfl⟩, Same.refl _⟩ (fun i σ H' _ ⟨_, s⟩ => SqL.of (s _ _ L0)) ?_ ?_⟩
    rotate_left
    · rintro σ H1 ⟨_, s01⟩
      exact k H1
    rintro i x σ H1 hi ⟨⟨v1, v2, v3, v4, v5, v6, rfl⟩, s01⟩
    obtain ⟨c, rfl⟩ : ∃ c, x = V.int c := by
      rw [List.getElem?_map] at hi
      cases e : (c0 :: ms)[i]? with
      | none => rw [e] at hi; cases hi
      | some c => rw [e] at hi; exact ⟨c, (Option.some.inj hi).symm⟩
    clear hi
    refine ⟨_, rfl, c, rfl, fun p H2 hp S2 s12 => ?_⟩
    have p0 : H0 p = none := s01.free hp
    have s02 := s01.trans s12
    refine ⟨_, rfl, p, 8, rfl, by decide, by decide, S2, fun t n e ns ks H4 ht4 A4 nsub hn he S4 B4 => ?_⟩
    have np := S2.ne hn
    have ep := S2.ne he
    refine ⟨t, _, rfl, SqT.of ht4, rfl, _, _, rfl, _, _, rfl, rfl, ?_⟩
    have s04 : Same H0 H4 := Same.but s02 p0 B4
    have zn := A4.row.okn
    have oe := A4.row.oke
    have oek : ∀ x ∈ ks.map (·.2), OkE x := fun x hx => oe x (((sortE_perm ks).map _).mem_iff.mpr hx)
    refine ⟨_, rfl, n, _, rfl, .inl (SqL.of A4.na), fun x1 hx1 => ?_⟩
    have s5 : Same H4 (L2.upd H4 x1 (.lst (ns.map V.str))) := Same.new hx1
    have e5 : L2.upd H4 x1 (.lst (ns.map V.str)) x1 = some (.lst (ns.map V.str)) := upd_same
    generalize L2.upd H4 x1 (.lst (ns.map V.str)) = H5 at s5 e5 ⊢
    refine ⟨_, rfl, e, _, rfl, .inl (SqL.of (s5 _ _ A4.ea)), fun x2 hx2 => ?_⟩
    have s6 : Same H5 (L2.upd H5 x2 (.lst (ks.map fun p => V.ref p.1))) := Same.new hx2
    have e6 : L2.upd H5 x2 (.lst (ks.map fun p => V.ref p.1)) x2 = some (.lst (ks.map fun p => V.ref p.1)) := upd_same
    generalize L2.upd H5 x2 (.lst (ks.map fun p => V.ref p.1)) = H6 at s6 e6 ⊢
    refine ⟨by show 2 ≤ sizeLine; decide, fun ps hps => ?_⟩
    have s7 : Same H6 (L2.upd H6 ps (.lst [.ref x1, .ref x2])) := Same.new hps
    have e7 : L2.upd H6 ps (.lst [.ref x1, .ref x2]) ps = some (.lst [.ref x1, .ref x2]) := upd_same
    generalize L2.upd H6 ps (.lst [.ref x1, .ref x2]) = H7 at s7 e7 ⊢
    have s47 := (s5.trans s6).trans s7
    have A7 := A4.same s47
    have x1a := s7 _ _ (s6 _ _ e5)
    have x2a := s7 _ _ e6
    have AX : ArgsOk H7 x1 x2 ns ks := ⟨x1a, A7.n0, A7.n8, A7.nd, A7.nm, x2a, A7.ed, A7.eo, A7.en, A7.el⟩
    refine ⟨_, rfl, ps, _, _, _, rfl, rfl, SqL.of e7, atI_nat (j := 0) rfl, _, rfl, ps, _, _, _, rfl, rfl, SqL.of e7, atI_nat (j := 1) rfl, ?_⟩
    refine made AX.row fun g H8 hg G8 s8 => ?_
    have A8 := A7.same s8
    have x1b := s8 _ _ x1a
    have x2b := s8 _ _ x2a
    refine ⟨_, rfl, _, rfl, _, rfl, by show 2 ≤ sizeLine; decide, fun qs hqs => ?_⟩
    have s9 : Same H8 (L2.upd H8 qs (.lst [.ref n, .ref e])) := Same.new hqs
    have e9 : L2.upd H8 qs (.lst [.ref n, .ref e]) qs = some (.lst [.ref n, .ref e]) := upd_same
    generalize L2.upd H8 qs (.lst [.ref n, .ref e]) = H9 at s9 e9 ⊢
    have A9 := A8.same s9
    have x1c := s9 _ _ x1b
    have x2c := s9 _ _ x2b
    have e7c := s9 _ _ (s8 _ _ e7)
    refine ⟨twoD ns (ks.map (·.2)), twoD ns (ks.map (·.2)), .lst (SqL.of e7c) (.cons (.lst (SqL.of x1c) (dp_txts ns)) (.cons (dp_edsL x2c A9.ed) .nil)), .lst (SqL.of e9) (.cons (.lst (SqL.of A9.na) (dp_txts ns)) (.cons (dp_edsL A9.ea A9.ed) .nil)), twoD_shaped zn oek, twoD_shaped zn oek, _, rfl, ?_⟩
    rw [twoD_eqv]
    refine iteF ?_
    have G9 := G8.same s9
    have S9 := ((S4.but s47).but s8).but s9
    have s49 := (s47.trans s8).trans s9
    refine ⟨_, rfl, ps, _, _, _, rfl, rfl, SqL.of e7c, atI_nat (j := 0) rfl, .inl ⟨rfl, _, SqL.of x1c⟩, x1, _, rfl, rfl, x1c, ?_⟩
    have d12 : x1 ≠ x2 := ne_of_none e5 hx2
    have d1p : x1 ≠ ps := ne_of_none (s6 _ _ e5) hps
    have d2p : x2 ≠ ps := ne_of_none e6 hps
    have e7d : L2.upd H9 x1 (.lst (ns.map V.str).reverse) ps = some (.lst [.ref x1, .ref x2]) := by rw [upd_ne (Ne.symm d1p)]; exact e7c
    refine ⟨_, rfl, ps, _, _, _, rfl, rfl, SqL.of e7d, atI_nat (j := 0) rfl, .inl ⟨rfl, _, SqL.of upd_same⟩, x1, _, _, rfl, rfl, upd_same, by rw [List.length_reverse, List.length_map, sizeLine_eq]; have := A4.n8; omega, ?_⟩
    generalize hH11 : L2.upd (L2.upd H9 x1 (.lst (ns.map V.str).reverse)) x1 (.lst ((ns.map V.str).reverse ++ [V.str "late"])) = H11
    have e7e : H11 ps = some (.lst [.ref x1, .ref x2]) := by rw [← hH11, upd_ne (Ne.symm d1p)]; exact e7d
    have x2e : H11 x2 = some (.lst (ks.map fun p => V.ref p.1)) := by rw [← hH11, upd_ne (Ne.symm d12), upd_ne (Ne.symm d12)]; exact x2c
    refine ⟨_, rfl, ps, _, _, _, rfl, rfl, SqL.of e7e, atI_nat (j := 1) rfl, .inl ⟨rfl, _, SqL.of x2e⟩, x2, _, rfl, rfl, x2e, ?_⟩
    have kp : ∀ b o, b ≠ x1 → b ≠ x2 → H9 b = some o → L2.upd H11 x2 (.lst []) b = some o := fun b o n1 n2 hb => by
      rw [upd_ne n2, ← hH11, upd_ne n1, upd_ne n1]; exact hb
    generalize L2.upd H11 x2 (.lst []) = H12 at kp ⊢
    have s4x : Same H4 H12 := fun b o hb => kp b o (ne_of_none hb hx1) (ne_of_none (s5 _ _ hb) hx2) (s49 _ _ hb)
    have G12 := G9.keep2 kp x1c x2c
    have A12 := A4.same s4x
    have S12 := S4.but s4x
    have s012 := s04.trans s4x
    clear kp x2e e7e hH11 e7d e7c x1c x2c S9 G9 A9 e9 s9 hqs x1b x2b A8 G8 s8 AX A7 x1a x2a e7 s7 e6 s6 e5 s5 s49 s47
    obtain ⟨⟨dx', t1, t2, g1, g2, g3⟩, ge⟩ := id G12
    refine ⟨_, rfl, g, C, dx', _, _, rfl, g1, T.cl, T.nV, gf_v _ _, _, rfl, n, _, rfl, .inl ⟨SqL.of A12.na, fun tA hA => ?_⟩⟩
    have s56 : Same H12 (L2.upd H12 tA (.tup (ns.map V.str))) := Same.new hA
    have eA : L2.upd H12 tA (.tup (ns.map V.str)) tA = some (.tup (ns.map V.str)) := upd_same
    generalize L2.upd H12 tA (.tup (ns.map V.str)) = H13 at s56 eA ⊢
    refine ⟨_, _, .tup (SqT.of (s56 _ _ g2)) (dp_txts ns), .tup (SqT.of eA) (dp_txts ns), txts_shaped zn, txts_shaped zn, _, rfl, ?_⟩
    rw [eqvAll_txt, decide_eq_true rfl]
    refine iteF ?_
    refine ⟨_, rfl, g, C, dx', _, _, rfl, s56 _ _ g1, T.cl, T.nE, gf_e _ _, _, rfl, e, ks, rfl, .inl (s56 _ _ A12.ea), (fun q hq => s56 _ _ (A12.ed q hq)), by have := A12.el; omega, fun LS hLS => ?_⟩
    have s67 : Same H13 (L2.upd H13 LS (.lst ((sortE ks).map fun p => V.ref p.1))) := Same.new hLS
    have eL : L2.upd H13 LS (.lst ((sortE ks).map fun p => V.ref p.1)) LS = some (.lst ((sortE ks).map fun p => V.ref p.1)) := upd_same
    generalize L2.upd H13 LS (.lst ((sortE ks).map fun p => V.ref p.1)) = H14 at s67 eL ⊢
    refine ⟨LS, _, rfl, .inl ⟨SqL.of eL, fun tB hB => ?_⟩⟩
    have s78 : Same H14 (L2.upd H14 tB (.tup ((sortE ks).map fun p => V.ref p.1))) := Same.new hB
    have eB : L2.upd H14 tB (.tup ((sortE ks).map fun p => V.ref p.1)) tB = some (.tup ((sortE ks).map fun p => V.ref p.1)) := upd_same
    generalize L2.upd H14 tB (.tup ((sortE ks).map fun p => V.ref p.1)) = H15 at s78 eB ⊢
    have s58 := (s56.trans s67).trans s78
    have ed8 : ∀ q ∈ sortE ks, EdAt H15 q := fun q hq => s58 _ _ (ge q hq)
    refine ⟨_, _, dp_edsT (s58 _ _ g3) ed8, dp_edsT eB ed8, eds_shaped oe, eds_shaped oe, _, rfl, ?_⟩
    rw [eqvAll_eds, decide_eq_true rfl]
    refine iteF ?_
    have A15 := A12.same s58
    have G15 := G12.same s58
    have S15 := S12.but s58
    refine ⟨_, rfl, _, rfl, _, rfl, _, rfl, p, n, e, g, ns, ks, rfl, S15, np, ep, A15, nsub, G15, fun H16 S16 B16 => ?_⟩
    refine ⟨true, rfl, iteF ?_⟩
    have A16 := A15.but S15 np ep B16
    refine ⟨_, rfl, _, rfl, _, rfl, p, n, e, ns, ks, rfl, S16, np, ep, A16, fun H17 S17 B17 => ?_⟩
    refine ⟨true, rfl, iteF ?_⟩
    have sF : Same H0 H17 := Same.but (s012.trans s58) p0 (B16.trans B17)
    exact ⟨⟨_, _, _, _, _, _, rfl⟩, sF⟩
end
end CP
namespace CP
open PySem L2
set_option maxHeartbeats 4000000 in
theorem all_mk {l : PySem.W.OpenLaw} {w : World} {K : PySem.W.Frag} {h : Heap} {mg : Str → Option Value} {fa C  fRo fCo fNa fVe fEg fAm fJo fCa fSo fNe fOn fMi fGr fWo fWr fAl fLa fIn fEq : Addr} (X : K.In h) (G : h.Ns mainGlobals mg) (hfa : mg "law" = some (.ref fa))
    {odRo anRo odCo anCo odNa anNa odVe anVe odEg anEg odAm anAm odJo anJo odCa anCa odSo anSo odNe anNe odOn anOn odMi anMi odGr anGr odWo anWo odWr anWr odAl anAl odLa anLa odIn anIn odEq anEq : Option Addr} {slRo slCo slNa slVe slEg slAm slJo slCa slSo slNe slOn slMi slGr slWo slWr slAl slLa slIn slEq : Array (Option Value)} {ocRo kVRo dcRo pmRo cdRo ctRo ocCo kVCo dcCo pmCo cdCo ctCo ocNa kVNa dcNa pmNa cdNa ctNa ocVe kVVe dcVe pmVe cdVe ctVe ocEg kVEg dcEg pmEg cdEg ctEg ocAm kVAm dcAm pmAm cdAm ctAm ocJo kVJo dcJo pmJo cdJo ctJo ocCa kVCa dcCa pmCa cdCa ctCa ocSo kVSo dcSo pmSo cdSo ctSo ocNe kVNe dcNe pmNe cdNe ctNe ocOn kVOn dcOn pmOn cdOn ctOn ocMi kVMi dcMi pmMi cdMi ctMi ocGr kVGr dcGr pmGr cdGr ctGr ocWo kVWo dcWo pmWo cdWo ctWo ocWr kVWr dcWr pmWr cdWr ctWr ocAl kVAl dcAl pmAl cdAl ctAl ocLa kVLa dcLa pmLa cdLa ctLa ocIn kVIn dcIn pmIn cdIn ctIn ocEq kVEq dcEq pmEq cdEq ctEq : Value} {t0 t1 t2 t3 : Tok}
    (aC : PySem.W.nsIn K mainGlobals "Graph" = some (some (.ref C)))
    (aRo : PySem.W.nsIn K mainGlobals "is_row" = some (some (.ref fRo)))
    (lRo : K.lookup fRo = some ⟨ocRo, odRo, .func (PySem.W.fnOf "is_row" "is_row" (defArgs sRow) (defBody sRow) (defScope sRow) .none kVRo dcRo pmRo anRo cdRo ctRo), slRo⟩)
    (cRo : PySem.W.codeIn K cdRo "is_row" = true)
    (kRo : PySem.W.keepIn K (.ref fRo) = true)
    (aCo : PySem.W.nsIn K mainGlobals "is_couple" = some (some (.ref fCo)))
    (lCo : K.lookup fCo = some ⟨ocCo, odCo, .func (PySem.W.fnOf "is_couple" "is_couple" (defArgs sCouple) (defBody sCouple) (defScope sCouple) .none kVCo dcCo pmCo anCo cdCo ctCo), slCo⟩)
    (cCo : PySem.W.codeIn K cdCo "is_couple" = true)
    (kCo : PySem.W.keepIn K (.ref fCo) = true)
    (aNa : PySem.W.nsIn K mainGlobals "is_name" = some (some (.ref fNa)))
    (lNa : K.lookup fNa = some ⟨ocNa, odNa, .func (PySem.W.fnOf "is_name" "is_name" (defArgs sName) (defBody sName) (defScope sName) .none kVNa dcNa pmNa anNa cdNa ctNa), slNa⟩)
    (cNa : PySem.W.codeIn K cdNa "is_name" = true)
    (kNa : PySem.W.keepIn K (.ref fNa) = true)
    (aVe : PySem.W.nsIn K mainGlobals "are_vertices" = some (some (.ref fVe)))
    (lVe : K.lookup fVe = some ⟨ocVe, odVe, .func (PySem.W.fnOf "are_vertices" "are_vertices" (defArgs sVerts) (defBody sVerts) (defScope sVerts) .none kVVe dcVe pmVe anVe cdVe ctVe), slVe⟩)
    (cVe : PySem.W.codeIn K cdVe "are_vertices" = true)
    (kVe : PySem.W.keepIn K (.ref fVe) = true)
    (aEg : PySem.W.nsIn K mainGlobals "are_edges" = some (some (.ref fEg)))
    (lEg : K.lookup fEg = some ⟨ocEg, odEg, .func (PySem.W.fnOf "are_edges" "are_edges" (defArgs sEdges) (defBody sEdges) (defScope sEdges) .none kVEg dcEg pmEg anEg cdEg ctEg), slEg⟩)
    (cEg : PySem.W.codeIn K cdEg "are_edges" = true)
    (kEg : PySem.W.keepIn K (.ref fEg) = true)
    (aAm : PySem.W.nsIn K mainGlobals "is_among" = some (some (.ref fAm)))
    (lAm : K.lookup fAm = some ⟨ocAm, odAm, .func (PySem.W.fnOf "is_among" "is_among" (defArgs sAmong) (defBody sAmong) (defScope sAmong) .none kVAm dcAm pmAm anAm cdAm ctAm), slAm⟩)
    (cAm : PySem.W.codeIn K cdAm "is_among" = true)
    (kAm : PySem.W.keepIn K (.ref fAm) = true)
    (aJo : PySem.W.nsIn K mainGlobals "joins" = some (some (.ref fJo)))
    (lJo : K.lookup fJo = some ⟨ocJo, odJo, .func (PySem.W.fnOf "joins" "joins" (defArgs sJoins) (defBody sJoins) (defScope sJoins) .none kVJo dcJo pmJo anJo cdJo ctJo), slJo⟩)
    (cJo : PySem.W.codeIn K cdJo "joins" = true)
    (kJo : PySem.W.keepIn K (.ref fJo) = true)
    (aCa : PySem.W.nsIn K mainGlobals "_law_cell_at" = some (some (.ref fCa)))
    (lCa : K.lookup fCa = some ⟨ocCa, odCa, .func (PySem.W.fnOf "_law_cell_at" "_law_cell_at" (defArgs sCell) (defBody sCell) (defScope sCell) .none kVCa dcCa pmCa anCa cdCa ctCa), slCa⟩)
    (cCa : PySem.W.codeIn K cdCa "_law_cell_at" = true)
    (kCa : PySem.W.keepIn K (.ref fCa) = true)
    (aSo : PySem.W.nsIn K mainGlobals "_law_source_of" = some (some (.ref fSo)))
    (lSo : K.lookup fSo = some ⟨ocSo, odSo, .func (PySem.W.fnOf "_law_source_of" "_law_source_of" (defArgs sSource) (defBody sSource) (defScope sSource) .none kVSo dcSo pmSo anSo cdSo ctSo), slSo⟩)
    (cSo : PySem.W.codeIn K cdSo "_law_source_of" = true)
    (kSo : PySem.W.keepIn K (.ref fSo) = true)
    (aNe : PySem.W.nsIn K mainGlobals "_law_next" = some (some (.ref fNe)))
    (lNe : K.lookup fNe = some ⟨ocNe, odNe, .func (PySem.W.fnOf "_law_next" "_law_next" (defArgs sNext) (defBody sNext) (defScope sNext) .none kVNe dcNe pmNe anNe cdNe ctNe), slNe⟩)
    (cNe : PySem.W.codeIn K cdNe "_law_next" = true)
    (kNe : PySem.W.keepIn K (.ref fNe) = true)
    (aOn : PySem.W.nsIn K mainGlobals "_law_one" = some (some (.ref fOn)))
    (lOn : K.lookup fOn = some ⟨ocOn, odOn, .func (PySem.W.fnOf "_law_one" "_law_one" (defArgs sOne) (defBody sOne) (defScope sOne) .none kVOn dcOn pmOn anOn cdOn ctOn), slOn⟩)
    (cOn : PySem.W.codeIn K cdOn "_law_one" = true)
    (kOn : PySem.W.keepIn K (.ref fOn) = true)
    (aMi : PySem.W.nsIn K mainGlobals "_law_mixed" = some (some (.ref fMi)))
    (lMi : K.lookup fMi = some ⟨ocMi, odMi, .func (PySem.W.fnOf "_law_mixed" "_law_mixed" (defArgs sMixed) (defBody sMixed) (defScope sMixed) .none kVMi dcMi pmMi anMi cdMi ctMi), slMi⟩)
    (cMi : PySem.W.codeIn K cdMi "_law_mixed" = true)
    (kMi : PySem.W.keepIn K (.ref fMi) = true)
    (aGr : PySem.W.nsIn K mainGlobals "_law_graph" = some (some (.ref fGr)))
    (lGr : K.lookup fGr = some ⟨ocGr, odGr, .func (PySem.W.fnOf "_law_graph" "_law_graph" (defArgs sGraph) (defBody sGraph) (defScope sGraph) .none kVGr dcGr pmGr anGr cdGr ctGr), slGr⟩)
    (cGr : PySem.W.codeIn K cdGr "_law_graph" = true)
    (kGr : PySem.W.keepIn K (.ref fGr) = true)
    (aWo : PySem.W.nsIn K mainGlobals "_law_words" = some (some (.ref fWo)))
    (lWo : K.lookup fWo = some ⟨ocWo, odWo, .func (PySem.W.fnOf "_law_words" "_law_words" (defArgs sWords) (defBody sWords) (defScope sWords) .none kVWo dcWo pmWo anWo cdWo ctWo), slWo⟩)
    (cWo : PySem.W.codeIn K cdWo "_law_words" = true)
    (kWo : PySem.W.keepIn K (.ref fWo) = true)
    (aWr : PySem.W.nsIn K mainGlobals "_law_words_right" = some (some (.ref fWr)))
    (lWr : K.lookup fWr = some ⟨ocWr, odWr, .func (PySem.W.fnOf "_law_words_right" "_law_words_right" (defArgs sWordsR) (defBody sWordsR) (defScope sWordsR) .none kVWr dcWr pmWr anWr cdWr ctWr), slWr⟩)
    (cWr : PySem.W.codeIn K cdWr "_law_words_right" = true)
    (kWr : PySem.W.keepIn K (.ref fWr) = true)
    (aAl : PySem.W.nsIn K mainGlobals "_law_alike_right" = some (some (.ref fAl)))
    (lAl : K.lookup fAl = some ⟨ocAl, odAl, .func (PySem.W.fnOf "_law_alike_right" "_law_alike_right" (defArgs sAlike) (defBody sAlike) (defScope sAlike) .none kVAl dcAl pmAl anAl cdAl ctAl), slAl⟩)
    (cAl : PySem.W.codeIn K cdAl "_law_alike_right" = true)
    (kAl : PySem.W.keepIn K (.ref fAl) = true)
    (aLa : PySem.W.nsIn K mainGlobals "law" = some (some (.ref fLa)))
    (lLa : K.lookup fLa = some ⟨ocLa, odLa, .func (PySem.W.fnOf "law" "law" (defArgs sLaw) (defBody sLaw) (defScope sLaw) .none kVLa dcLa pmLa anLa cdLa ctLa), slLa⟩)
    (cLa : PySem.W.codeIn K cdLa "law" = true)
    (kLa : PySem.W.keepIn K (.ref fLa) = true)
    (aIn : PySem.W.findIn K (.ref C) "__init__" = some (some (.ref fIn)))
    (iIn : PySem.W.isFn K (.ref fIn) = true)
    (lIn : K.lookup fIn = some ⟨ocIn, odIn, .func (PySem.W.fnOf "__init__" "Graph.__init__" (defArgs sInit) (defBody sInit) (defScope sInit) .none kVIn dcIn pmIn anIn cdIn ctIn), slIn⟩)
    (cIn : PySem.W.codeIn K cdIn "Graph.__init__" = true)
    (kIn : PySem.W.keepIn K (.ref fIn) = true)
    (aEq : PySem.W.findIn K (.ref C) "__eq__" = some (some (.ref fEq)))
    (iEq : PySem.W.isFn K (.ref fEq) = true)
    (lEq : K.lookup fEq = some ⟨ocEq, odEq, .func (PySem.W.fnOf "__eq__" "Graph.__eq__" (defArgs sEq) (defBody sEq) (defScope sEq) .none kVEq dcEq pmEq anEq cdEq ctEq), slEq⟩)
    (cEq : PySem.W.codeIn K cdEq "Graph.__eq__" = true)
    (kEq : PySem.W.keepIn K (.ref fEq) = true)
    (aNeq : PySem.W.findIn K (.ref C) "__ne__" = some (some (.builtin "object.__ne__")))
    (sb_NoneType : PySem.W.subIn K (.type "NoneType") (.ref C) = some false)
    (kf_NoneType : PySem.W.kitOne K (.type "NoneType") (.ref C) = some false)
    (sb_int : PySem.W.subIn K (.type "int") (.ref C) = some false)
    (kf_int : PySem.W.kitOne K (.type "int") (.ref C) = some false)
    (sb_str : PySem.W.subIn K (.type "str") (.ref C) = some false)
    (kf_str : PySem.W.kitOne K (.type "str") (.ref C) = some false)
    (sb_tuple : PySem.W.subIn K (.type "tuple") (.ref C) = some false)
    (kf_tuple : PySem.W.kitOne K (.type "tuple") (.ref C) = some false)
    (sb_list : PySem.W.subIn K (.type "list") (.ref C) = some false)
    (kf_list : PySem.W.kitOne K (.type "list") (.ref C) = some false)
    (pgC : PySem.W.plainGet K C Str.empty = true)
    (hdC : PySem.W.hasDictIn K C = true)
    (poC : PySem.W.plainOver K C = true)
    (saC : PySem.W.findIn K (.ref C) "__setattr__" = some (some (.builtin "object.__setattr__")))
    (mkC : PySem.W.makesIn K C = true)
    (kcC : PySem.W.keepIn K (.ref C) = true)
    (nV : PySem.W.findIn K (.ref C) "vertices" = some none)
    (nE : PySem.W.findIn K (.ref C) "edges" = some none)
    (caC : PySem.W.findIn K (.ref C) "__class__" = some (some (.builtin "object.__class__")))
    (moC : PySem.W.mroIn K C (.type "object") = some true)
    (kCC : PySem.W.kitOne K (.ref C) (.ref C) = some true)
    (sg : PySem.W.specialIn K (.builtin "object.__class__") "__get__" = some (some (.builtin "getset_descriptor.__get__")))
    (tk : PySem.W.takesIn K (.builtin "object.__class__") = some true)
    (z_len : PySem.W.nsIn K mainGlobals "len" = some none)
    (z_int : PySem.W.nsIn K mainGlobals "int" = some none)
    (z_list : PySem.W.nsIn K mainGlobals "list" = some none)
    (z_tuple : PySem.W.nsIn K mainGlobals "tuple" = some none)
    (z_isinstance : PySem.W.nsIn K mainGlobals "isinstance" = some none)
    (z_str : PySem.W.nsIn K mainGlobals "str" = some none)
    (z_all : PySem.W.nsIn K mainGlobals "all" = some none)
    (z_set : PySem.W.nsIn K mainGlobals "set" = some none)
    (z_sorted : PySem.W.nsIn K mainGlobals "sorted" = some none)
    (z_min : PySem.W.nsIn K mainGlobals "min" = some none)
    (z_max : PySem.W.nsIn K mainGlobals "max" = some none)
    (z_range : PySem.W.nsIn K mainGlobals "range" = some none)
    (z_zip : PySem.W.nsIn K mainGlobals "zip" = some none)
    (z_dict : PySem.W.nsIn K mainGlobals "dict" = some none)
    (x_LETTERS : PySem.W.nsIn K mainGlobals "LETTERS" = some (some (.str letters t0)))
    (x_LONGEST_NAME : PySem.W.nsIn K mainGlobals "LONGEST_NAME" = some (some (.int 8 t1)))
    (x_MOST_VERTICES : PySem.W.nsIn K mainGlobals "MOST_VERTICES" = some (some (.int 8 t2)))
    (x_MOST_EDGES : PySem.W.nsIn K mainGlobals "MOST_EDGES" = some (some (.int 18 t3))) :
    ∃ fd : FuncData, (∀ (s : Shared) (v : Value), BindsTo s fd ⟨[v], []⟩ [("_law_script", v)]) ∧ ∀ base : Heap, K.In base → base.Ns mainGlobals mg → FnG l.prog w K mg base 7 fa fd ["_law_script"] (spLaw K) := by
  have e := hfa.symm.trans (PySem.W.mg_of X G aLa)
  cases e
  have T : GTxt K mg C := ⟨⟨pgC, hdC, poC, saC⟩, nV, nE, PySem.W.mg_of X G aC⟩
  have FRo := fun_mk (st := sRow) lRo cRo kRo
  have bRo := FRo.binds (ps := ["value"]) fun _ _ _ _ _ _ us hl => match us, hl with | [_], _ => rfl
  have mRo := PySem.W.mg_of X G aRo
  have FCo := fun_mk (st := sCouple) lCo cCo kCo
  have bCo := FCo.binds (ps := ["value"]) fun _ _ _ _ _ _ us hl => match us, hl with | [_], _ => rfl
  have mCo := PySem.W.mg_of X G aCo
  have FNa := fun_mk (st := sName) lNa cNa kNa
  have bNa := FNa.binds (ps := ["value"]) fun _ _ _ _ _ _ us hl => match us, hl with | [_], _ => rfl
  have mNa := PySem.W.mg_of X G aNa
  have FVe := fun_mk (st := sVerts) lVe cVe kVe
  have bVe := FVe.binds (ps := ["value"]) fun _ _ _ _ _ _ us hl => match us, hl with | [_], _ => rfl
  have mVe := PySem.W.mg_of X G aVe
  have FEg := fun_mk (st := sEdges) lEg cEg kEg
  have bEg := FEg.binds (ps := ["vertices", "value"]) fun _ _ _ _ _ _ us hl => match us, hl with | [_, _], _ => rfl
  have mEg := PySem.W.mg_of X G aEg
  have FAm := fun_mk (st := sAmong) lAm cAm kAm
  have bAm := FAm.binds (ps := ["vertices", "value"]) fun _ _ _ _ _ _ us hl => match us, hl with | [_, _], _ => rfl
  have mAm := PySem.W.mg_of X G aAm
  have FJo := fun_mk (st := sJoins) lJo cJo kJo
  have bJo := FJo.binds (ps := ["vertices", "value"]) fun _ _ _ _ _ _ us hl => match us, hl with | [_, _], _ => rfl
  have mJo := PySem.W.mg_of X G aJo
  have FCa := fun_mk (st := sCell) lCa cCa kCa
  have bCa := FCa.binds (ps := ["_law_script", "_law_k"]) fun _ _ _ _ _ _ us hl => match us, hl with | [_, _], _ => rfl
  have mCa := PySem.W.mg_of X G aCa
  have FSo := fun_mk (st := sSource) lSo cSo kSo
  have bSo := FSo.binds (ps := ["_law_cell"]) fun _ _ _ _ _ _ us hl => match us, hl with | [_], _ => rfl
  have mSo := PySem.W.mg_of X G aSo
  have FNe := fun_mk (st := sNext) lNe cNe kNe
  have bNe := FNe.binds (ps := ["_law_source", "_law_many"]) fun _ _ _ _ _ _ us hl => match us, hl with | [_, _], _ => rfl
  have mNe := PySem.W.mg_of X G aNe
  have FOn := fun_mk (st := sOne) lOn cOn kOn
  have bOn := FOn.binds (ps := ["_law_source", "_law_some"]) fun _ _ _ _ _ _ us hl => match us, hl with | [_, _], _ => rfl
  have mOn := PySem.W.mg_of X G aOn
  have FMi := fun_mk (st := sMixed) lMi cMi kMi
  have bMi := FMi.binds (ps := ["_law_source", "_law_some"]) fun _ _ _ _ _ _ us hl => match us, hl with | [_, _], _ => rfl
  have mMi := PySem.W.mg_of X G aMi
  have FGr := fun_mk (st := sGraph) lGr cGr kGr
  have bGr := FGr.binds (ps := ["_law_source", "_law_most"]) fun _ _ _ _ _ _ us hl => match us, hl with | [_, _], _ => rfl
  have mGr := PySem.W.mg_of X G aGr
  have FWo := fun_mk (st := sWords) lWo cWo kWo
  have bWo := FWo.binds (ps := ["_law_source", "_law_many"]) fun _ _ _ _ _ _ us hl => match us, hl with | [_, _], _ => rfl
  have mWo := PySem.W.mg_of X G aWo
  have FWr := fun_mk (st := sWordsR) lWr cWr kWr
  have bWr := FWr.binds (ps := ["_law_source", "_law_names", "_law_edges"]) fun _ _ _ _ _ _ us hl => match us, hl with | [_, _, _], _ => rfl
  have mWr := PySem.W.mg_of X G aWr
  have FAl := fun_mk (st := sAlike) lAl cAl kAl
  have bAl := FAl.binds (ps := ["_law_source", "_law_names", "_law_edges", "_law_graph_here"]) fun _ _ _ _ _ _ us hl => match us, hl with | [_, _, _, _], _ => rfl
  have mAl := PySem.W.mg_of X G aAl
  have FLa := fun_mk (st := sLaw) lLa cLa kLa
  have FIn := fun_mk (st := sInit) lIn cIn kIn
  have bIn := FIn.binds (ps := ["self", "vertices", "edges"]) fun _ _ _ _ _ _ us hl => match us, hl with | [_, _, _], _ => rfl
  have FEq := fun_mk (st := sEq) lEq cEq kEq
  have bEq := FEq.binds (ps := ["self", "other"]) fun _ _ _ _ _ _ us hl => match us, hl with | [_, _], _ => rfl
  have n_len := PySem.W.mg_none_of X G z_len
  have n_int := PySem.W.mg_none_of X G z_int
  have n_list := PySem.W.mg_none_of X G z_list
  have n_tuple := PySem.W.mg_none_of X G z_tuple
  have n_isinstance := PySem.W.mg_none_of X G z_isinstance
  have n_str := PySem.W.mg_none_of X G z_str
  have n_all := PySem.W.mg_none_of X G z_all
  have n_set := PySem.W.mg_none_of X G z_set
  have n_sorted := PySem.W.mg_none_of X G z_sorted
  have n_min := PySem.W.mg_none_of X G z_min
  have n_max := PySem.W.mg_none_of X G z_max
  have n_range := PySem.W.mg_none_of X G z_range
  have n_zip := PySem.W.mg_none_of X G z_zip
  have n_dict := PySem.W.mg_none_of X G z_dict
  have v_LETTERS := PySem.W.mg_of X G x_LETTERS
  have v_LONGEST_NAME := PySem.W.mg_of X G x_LONGEST_NAME
  have v_MOST_VERTICES := PySem.W.mg_of X G x_MOST_VERTICES
  have v_MOST_EDGES := PySem.W.mg_of X G x_MOST_EDGES
  have nf : ∀ t ∈ ["NoneType", "int", "str", "tuple", "list"], PySem.W.notFirst K C (.type t) = true := fun t ht => by
    simp only [List.mem_cons, List.not_mem_nil, or_false] at ht
    rcases ht with rfl | rfl | rfl | rfl | rfl
    · simp [PySem.W.notFirst, sb_NoneType]
    · simp [PySem.W.notFirst, sb_int]
    · simp [PySem.W.notFirst, sb_str]
    · simp [PySem.W.notFirst, sb_tuple]
    · simp [PySem.W.notFirst, sb_list]
  have kf : ∀ t ∈ ["NoneType", "int", "str", "tuple", "list"], PySem.W.kitOne K (.type t) (.ref C) = some false := fun t ht => by
    simp only [List.mem_cons, List.not_mem_nil, or_false] at ht
    rcases ht with rfl | rfl | rfl | rfl | rfl
    · exact kf_NoneType
    · exact kf_int
    · exact kf_str
    · exact kf_tuple
    · exact kf_list
  refine ⟨PySem.W.fnOf "law" "law" (defArgs sLaw) (defBody sLaw) (defScope sLaw) .none kVLa dcLa pmLa anLa cdLa ctLa, fun s v => .of_eq rfl, fun base _ _ => ?_⟩
  have GNe : FnOk l.prog w K mg base CX0 1 fNe _ ["_law_source", "_law_many"] spNext := ok_next FNe
  have GNx : FnOk l.prog w K mg base CX0 1 fNe _ ["_law_source", "_law_many"] spNextX := ok_nextX FNe
  have GOn : FnOk l.prog w K mg base CX0 2 fOn _ ["_law_source", "_law_some"] (spOne K) := ok_one FOn n_len mNe FNe bNe
  have GOs : FnOk l.prog w K mg base CX0 2 fOn _ ["_law_source", "_law_some"] spOneS := ok_oneS FOn n_len mNe GNx kNe bNe
  have GMi : FnOk l.prog w K mg base CX0 2 fMi _ ["_law_source", "_law_some"] (spMixed K) := ok_mixed FMi n_len n_list mNe FNe bNe
  have GRo : FnOk l.prog w K mg base CX0 1 fRo _ ["value"] spRow := ok_row FRo n_isinstance n_list n_tuple
  have GCo : FnOk l.prog w K mg base CX0 1 fCo _ ["value"] spCouple := ok_couple FCo n_isinstance n_len n_tuple
  have GAm : FnOk l.prog w K mg base CX0 1 fAm _ ["vertices", "value"] (spAmong K) := ok_among FAm n_isinstance n_str
  have GJo : FnOk l.prog w K mg base CX0 2 fJo _ ["vertices", "value"] (spJoins K) := ok_joins FJo mCo GCo kCo bCo mAm GAm kAm bAm
  have GNa : FnOk l.prog w K mg base CX0 1 fNa _ ["value"] spName := ok_name FNa n_isinstance n_str n_len n_all v_LETTERS v_LONGEST_NAME
  have GVe : FnOk l.prog w K mg base CX0 2 fVe _ ["value"] spVerts := ok_verts FVe n_len n_all n_set v_MOST_VERTICES mRo GRo kRo bRo mNa GNa kNa bNa
  have GEg : FnOk l.prog w K mg base CX0 3 fEg _ ["vertices", "value"] spEdges := ok_edges FEg n_len n_all n_set v_MOST_EDGES mRo GRo kRo bRo mJo GJo kJo bJo
  have GIn : FnOk l.prog w K mg base CX0 4 fIn _ ["self", "vertices", "edges"] (spInit C) := ok_init FIn T n_tuple n_sorted mVe GVe kVe bVe mEg GEg kEg bEg
  have GEq : FnOk l.prog w K mg base CX0 1 fEq _ ["self", "other"] (spGEqA K C) := ok_geqA FEq T n_isinstance kCC caC sg tk moC
  have GSo : FnOk l.prog w K mg base CX0 1 fSo _ ["_law_cell"] spSource := ok_source FSo n_int
  have GGr : FnOk l.prog w K mg base CX0 3 fGr _ ["_law_source", "_law_most"] spGraph := ok_graph FGr n_len n_min mNe GNe kNe bNe mMi GMi kMi bMi mOn GOn kOn bOn
  have GWo : FnOk l.prog w K mg base CX0 3 fWo _ ["_law_source", "_law_many"] spWords := ok_words FWo n_len n_range mNe GNx kNe bNe mOn GOs kOn bOn
  have GWr : FnOk l.prog w K mg base CX0 6 fWr _ ["_law_source", "_law_names", "_law_edges"] spWordsR := ok_wordsR FWr T n_len n_dict n_zip n_min n_max n_tuple n_sorted n_list mWo GWo kWo bWo mOn GOs kOn bOn ⟨mkC, aIn, iIn, kcC⟩ GIn bIn
  have GAl : FnOk l.prog w K mg base CX0 6 fAl _ ["_law_source", "_law_names", "_law_edges", "_law_graph_here"] (spAlike C) := ok_alike FAl T n_len n_tuple mMi GMi kMi bMi GEq aEq iEq aNeq bEq moC nf kf ⟨mkC, aIn, iIn, kcC⟩ GIn bIn
  have GCa : FnOk l.prog w K mg base CX0 1 fCa _ ["_law_script", "_law_k"] (spCell K) := ok_cell FCa n_len
  exact ok_law FLa T n_tuple n_sorted n_list mCa GCa kCa bCa mSo GSo kSo bSo mGr GGr kGr bGr mAl GAl kAl bAl mWr GWr kWr bWr ⟨mkC, aIn, iIn, kcC⟩ GIn bIn
theorem walk {l : PySem.W.OpenLaw} {q : Program} {loose : List Str} {XP : (Str → Option Value) → Heap → Prop} {YP : World → Heap → Prop} {d : DefRec} {K : Params → PySem.W.Frag} (hn : l.most = some 63) (hdf : d.params.defaults = [])
    (hY : ∀ (w : World) (h : Heap), YP w h → (K w.params).In h)
    (F : ∀ (w : World) (mg : Str → Option Value) (fa : Addr) (h : Heap), (K w.params).In h → h.Ns mainGlobals mg → mg d.name = some (.ref fa) →
      ∃ fd : FuncData, (∀ (s : Shared) (u : Value), BindsTo s fd ⟨[u], []⟩ [("_law_script", u)]) ∧ ∀ base : Heap, (K w.params).In base → base.Ns mainGlobals mg → FnG l.prog w (K w.params) mg base 7 fa fd ["_law_script"] (spLaw (K w.params))) :
    PySem.W.WalkO q loose XP YP l.row.toRowW d [] (fun f vs => PySem.call f vs) :=
  walkG (n := 63) (k := 7) (x := "_law_script") (sp := spLaw) hn (by decide) hdf ⟨rfl, by decide, by decide⟩ hY F (fun _ _ a ns hl hS => ⟨a, ns, rfl, hS, hl, fun _ => rfl⟩)
end CP
open PySem PySem.W PyProof.Rows
set_option maxRecDepth 100000 in
set_option maxHeartbeats 0 in
theorem PySem.Challenge.cw_crossparity_k01_graphs_constructed_holds : PySem.Challenge.rw_crossparity_k01_graphs_constructed.Holds := by
  w_on; o_law; k_head; (case hw => w_witness2)
  k_fill
  refine CP.walk (l := PySem.Challenge.rw_crossparity_k01_graphs_constructed) rfl rfl (fun w h Y => PySem.W.kIn_of Y) ?F
  case F =>
    intro w mg fa h KX G hmg
    refine' CP.all_mk KX G hmg ?aC ?aRo ?lRo ?cRo ?kRo ?aCo ?lCo ?cCo ?kCo ?aNa ?lNa ?cNa ?kNa ?aVe ?lVe ?cVe ?kVe ?aEg ?lEg ?cEg ?kEg ?aAm ?lAm ?cAm ?kAm ?aJo ?lJo ?cJo ?kJo ?aCa ?lCa ?cCa ?kCa ?aSo ?lSo ?cSo ?kSo ?aNe ?lNe ?cNe ?kNe ?aOn ?lOn ?cOn ?kOn ?aMi ?lMi ?cMi ?kMi ?aGr ?lGr ?cGr ?kGr ?aWo ?lWo ?cWo ?kWo ?aWr ?lWr ?cWr ?kWr ?aAl ?lAl ?cAl ?kAl ?aLa ?lLa ?cLa ?kLa ?aIn ?iIn ?lIn ?cIn ?kIn ?aEq ?iEq ?lEq ?cEq ?kEq ?aNeq ?sb_NoneType ?kf_NoneType ?sb_int ?kf_int ?sb_str ?kf_str ?sb_tuple ?kf_tuple ?sb_list ?kf_list ?pgC ?hdC ?poC ?saC ?mkC ?kcC ?nV ?nE ?caC ?moC ?kCC ?sg ?tk ?z_len ?z_int ?z_list ?z_tuple ?z_isinstance ?z_str ?z_all ?z_set ?z_sorted ?z_min ?z_max ?z_range ?z_zip ?z_dict ?x_LETTERS ?x_LONGEST_NAME ?x_MOST_VERTICES ?x_MOST_EDGES
    (case aC => k_is)
    (case aRo => k_is)
    (case lRo => k_is)
    (case cRo => k_is)
    (case kRo => k_is)
    (case aCo => k_is)
    (case lCo => k_is)
    (case cCo => k_is)
    (case kCo => k_is)
    (case aNa => k_is)
    (case lNa => k_is)
    (case cNa => k_is)
    (case kNa => k_is)
    (case aVe => k_is)
    (case lVe => k_is)
    (case cVe => k_is)
    (case kVe => k_is)
    (case aEg => k_is)
    (case lEg => k_is)
    (case cEg => k_is)
    (case kEg => k_is)
    (case aAm => k_is)
    (case lAm => k_is)
    (case cAm => k_is)
    (case kAm => k_is)
    (case aJo => k_is)
    (case lJo => k_is)
    (case cJo => k_is)
    (case kJo => k_is)
    (case aCa => k_is)
    (case lCa => k_is)
    (case cCa => k_is)
    (case kCa => k_is)
    (case aSo => k_is)
    (case lSo => k_is)
    (case cSo => k_is)
    (case kSo => k_is)
    (case aNe => k_is)
    (case lNe => k_is)
    (case cNe => k_is)
    (case kNe => k_is)
    (case aOn => k_is)
    (case lOn => k_is)
    (case cOn => k_is)
    (case kOn => k_is)
    (case aMi => k_is)
    (case lMi => k_is)
    (case cMi => k_is)
    (case kMi => k_is)
    (case aGr => k_is)
    (case lGr => k_is)
    (case cGr => k_is)
    (case kGr => k_is)
    (case aWo => k_is)
    (case lWo => k_is)
    (case cWo => k_is)
    (case kWo => k_is)
    (case aWr => k_is)
    (case lWr => k_is)
    (case cWr => k_is)
    (case kWr => k_is)
    (case aAl => k_is)
    (case lAl => k_is)
    (case cAl => k_is)
    (case kAl => k_is)
    (case aLa => k_is)
    (case lLa => k_is)
    (case cLa => k_is)
    (case kLa => k_is)
    (case aIn => k_is)
    (case iIn => k_is)
    (case lIn => k_is)
    (case cIn => k_is)
    (case kIn => k_is)
    (case aEq => k_is)
    (case iEq => k_is)
    (case lEq => k_is)
    (case cEq => k_is)
    (case kEq => k_is)
    (case aNeq => k_is)
    (case sb_NoneType => k_is)
    (case kf_NoneType => kit_is)
    (case sb_int => k_is)
    (case kf_int => kit_is)
    (case sb_str => k_is)
    (case kf_str => kit_is)
    (case sb_tuple => k_is)
    (case kf_tuple => kit_is)
    (case sb_list => k_is)
    (case kf_list => kit_is)
    (case pgC => k_is)
    (case hdC => k_is)
    (case poC => k_is)
    (case saC => k_is)
    (case mkC => k_is)
    (case kcC => k_is)
    (case nV => k_is)
    (case nE => k_is)
    (case caC => k_is)
    (case moC => k_is)
    (case kCC => kit_is)
    (case sg => k_is)
    (case tk => k_is)
    (case z_len => k_is)
    (case z_int => k_is)
    (case z_list => k_is)
    (case z_tuple => k_is)
    (case z_isinstance => k_is)
    (case z_str => k_is)
    (case z_all => k_is)
    (case z_set => k_is)
    (case z_sorted => k_is)
    (case z_min => k_is)
    (case z_max => k_is)
    (case z_range => k_is)
    (case z_zip => k_is)
    (case z_dict => k_is)
    (case x_LETTERS => k_is)
    (case x_LONGEST_NAME => k_is)
    (case x_MOST_VERTICES => k_is)
    (case x_MOST_EDGES => k_is)
