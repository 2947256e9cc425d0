import PyProof.Rows.All
import Wide.All
import OpenK.AllK
import Wide.FinOn
import HandS.ForMost
import HandS.TupSets
import HandS.Strs
import HandS.SetKeys
import KE.KeyNested
import KE.KDictKeyed
import HandS.DictComp
import HandS.Walk
import PyProof.ReprRoads
import HandS.ExcInit
import HandS.ExcOwn
import HandS.ExcBuiltin
import HandS.ExcField
import HandS.IsInst
import KE.KExcIs
import HandS.OwnEq
import PyProof.InstNe
import KE.SortData
import HandS.TryOnly
import KE.GoesMore
import HandS.Style
import KE.DataMinMax
import KE.DataEq
import HandS.WordsExc
import HandS.Deep
import KE.RegKIsAll
import PySem.Challenge.RW_crossparity_k39_invalid_records_to_draw
set_option Elab.async false
set_option linter.all false
set_option maxRecDepth 100000
set_option maxHeartbeats 4000000
/-! Tables of sets with up to 512 places -/
namespace CP
open PySem PySem.Spec PyProof.Rows L2
def MaskG (m : Nat) : Prop := m = 7 ∨ m = 31 ∨ m = 127 ∨ m = 511
/-- the numbers met from 0, as bits -/
def met (m : Nat) : Nat → Nat → Nat → Nat
  | 0, _, acc => acc
  | k + 1, c, acc => met m k ((c * 5 + 1) % (m + 1)) (acc ||| 2 ^ c)
theorem met_bit (m : Nat) : ∀ (k a acc j : Nat), (met m k (lcgN m a) acc).testBit j = true → acc.testBit j = true ∨ ∃ b, a ≤ b ∧ b < a + k ∧ lcgN m b = j
  | 0, a, acc, j, h => .inl h
  | k + 1, a, acc, j, h => by
    have h' : (met m k (lcgN m (a + 1)) (acc ||| 2 ^ lcgN m a)).testBit j = true := h
    rcases met_bit m k (a + 1) _ j h' with c | ⟨b, b1, b2, b3⟩
    · rw [Nat.testBit_or, Bool.or_eq_true] at c
      rcases c with c | c
      · exact .inl c
      · rw [Nat.testBit_two_pow] at c
        exact .inr ⟨a, Nat.le_refl _, by omega, of_decide_eq_true c⟩
    · exact .inr ⟨b, by omega, by omega, b3⟩
theorem met_all {m : Nat} (hm : MaskG m) : met m (m + 1) 0 0 = 2 ^ (m + 1) - 1 := by
  rcases hm with rfl | rfl | rfl | rfl <;> decide +kernel
theorem met_back {m : Nat} (hm : MaskG m) : lcgN m (m + 1) = 0 := by
  rcases hm with rfl | rfl | rfl | rfl <;> decide +kernel
theorem odd_mask {m : Nat} (hm : MaskG m) : m % 2 = 1 := by
  rcases hm with rfl | rfl | rfl | rfl <;> rfl
theorem from0 {m : Nat} (hm : MaskG m) {j : Nat} (hj : j ≤ m) : ∃ b, b ≤ m ∧ lcgN m b = j := by
  have e : (met m (m + 1) (lcgN m 0) 0).testBit j = true := by
    show (met m (m + 1) 0 0).testBit j = true
    rw [met_all hm, Nat.testBit_two_pow_sub_one]
    exact decide_eq_true (by omega)
  rcases met_bit m (m + 1) 0 0 j e with c | ⟨b, _, b2, b3⟩
  · simp at c
  · exact ⟨b, by omega, b3⟩
theorem again {m : Nat} (hm : MaskG m) : ∀ k, lcgN m (m + 1 + k) = lcgN m k
  | 0 => met_back hm
  | k + 1 => by
    have ih := again hm k
    show ((lcgN m (m + 1 + k)) * 5 + 1) % (m + 1) = ((lcgN m k) * 5 + 1) % (m + 1)
    rw [ih]
theorem from_any {m : Nat} (hm : MaskG m) {i j : Nat} (hi : i ≤ m) (hj : j ≤ m) : ∃ k, k ≤ m ∧ lcgI m i k = j := by
  obtain ⟨a, ha, rfl⟩ := from0 hm hi
  obtain ⟨b, hb, rfl⟩ := from0 hm hj
  by_cases c : a ≤ b
  · exact ⟨b - a, by omega, by rw [lcgN_add, Nat.add_sub_cancel' c]⟩
  · refine ⟨m + 1 + b - a, by omega, ?_⟩
    rw [lcgN_add, Nat.add_sub_cancel' (by omega), again hm]
theorem runs_meet {m : Nat} (hm : MaskG m) (h : Int) {j : Nat} (hj : j ≤ m) : ∃ n, n ≤ m + 12 ∧ runI m (SetTable.bits h) n = j := by
  obtain ⟨k, hk, rfl⟩ := from_any hm (runI_le m (SetTable.bits h) 12) hj
  refine ⟨12 + k, by omega, runI_tail (bits_lt h) k⟩
theorem way_most (m : Nat) (h : Int) (k : Nat) : way m h k ≤ m := by
  have a : SetTable.bits h % (m + 1) ≤ m := Nat.le_of_lt_succ (Nat.mod_lt _ (Nat.succ_pos _))
  have r := runEnd_bd a
  have q := nth_in (m := m) k (runAt m (SetTable.bits h % (m + 1)) (SetTable.bits h))
  have q := q (by show SetTable.bits h % (m + 1) + (SetTable.runEnd m (SetTable.bits h % (m + 1)) - SetTable.bits h % (m + 1)) ≤ m; omega)
  exact Nat.le_trans (Nat.le_add_right _ _) q
theorem ways_meet {m : Nat} (hm : MaskG m) (h : Int) {j : Nat} (hj : j ≤ m) : ∃ k, k < 10 * SetTable.turns m ∧ way m h k = j := by
  obtain ⟨n, hn, e⟩ := runs_meet hm h hj
  obtain ⟨k, hk, q⟩ := run_nth m (SetTable.bits h) n
  refine ⟨k, by unfold SetTable.turns; omega, ?_⟩
  unfold way; rw [q]; exact e
/-- a table in which each place is met from its hash -/
structure TabG (t : SetTable) (hs : List Int) : Prop where
  ris : Ris t.place.toList
  dm : t.dummies = #[]
  sz : t.place.size = hs.length
  mok : MaskG t.mask
  bd : ∀ x ∈ t.place.toList, x ≤ t.mask
  reach : ∀ (i : Nat) (g : Int) (j : Nat), hs[i]? = some g → t.place.toList[i]? = some j → ∃ k, way t.mask g k = j ∧ ∀ c, c < k → way t.mask g c ∈ t.place.toList
theorem TabG.first {t : SetTable} {hs : List Int} (T : TabG t hs) (hl : hs.length ≤ t.mask) (g : Int) : ∃ K, K < 10 * SetTable.turns t.mask ∧ way t.mask g K ∉ t.place.toList ∧ ∀ c, c < K → way t.mask g c ∈ t.place.toList := by
  obtain ⟨j, hj, free⟩ := st_missing t.place.toList (t.mask + 1) (by have := T.sz; rw [Array.length_toList]; omega)
  obtain ⟨k, hk, e⟩ := ways_meet T.mok g (Nat.le_of_lt_succ hj)
  obtain ⟨K, k1, k2, k3⟩ := st_least (p := fun c => way t.mask g c ∉ t.place.toList) k (by rw [e]; exact free)
  exact ⟨K, by omega, k2, fun c hc => Classical.not_not.mp (k3 c hc)⟩
theorem TabG.before {t : SetTable} {hs : List Int} (T : TabG t hs) {g : Int} {K i j : Nat} (hK : way t.mask g K ∉ t.place.toList) (hi : hs[i]? = some g) (hj : t.place.toList[i]? = some j) : ∃ k, k < K ∧ way t.mask g k = j := by
  obtain ⟨k, e, all⟩ := T.reach i g j hi hj
  by_cases c : k < K
  · exact ⟨k, c, e⟩
  · exfalso
    by_cases d : K = k
    · rw [d, e] at hK; exact hK (List.mem_of_getElem? hj)
    · exact hK (all K (by omega))
theorem TabG.put {t : SetTable} {hs : List Int} (T : TabG t hs) {g : Int} {K : Nat} (hK : way t.mask g K ∉ t.place.toList) (occ : ∀ c, c < K → way t.mask g c ∈ t.place.toList) :
    ∃ n, n = SetTable.below t.place (way t.mask g K) ∧ (t.put (way t.mask g K)).2 = n ∧ n ≤ hs.length ∧ TabG (t.put (way t.mask g K)).1 (hs.take n ++ g :: hs.drop n) ∧ (t.put (way t.mask g K)).1.mask = t.mask ∧ (t.put (way t.mask g K)).1.fill = hs.length + 1 := by
  have top := way_most t.mask g K
  generalize hj : way t.mask g K = j at hK top
  obtain ⟨c1, _, _⟩ := below_cut T.ris j
  have lenp : t.place.toList.length = hs.length := by have := T.sz; rw [Array.length_toList]; exact this
  have nl : SetTable.below t.place j ≤ hs.length := by rw [← T.sz]; exact c1
  have new : t.place[SetTable.below t.place j]? ≠ some j := fun e => hK (List.mem_of_getElem? (i := SetTable.below t.place j) (by rw [Array.getElem?_toList]; exact e))
  have lay := put_place t j
  have size : (t.put j).1.place.size = hs.length + 1 := by rw [← Array.length_toList, lay, len_ins _ (by omega), lenp]
  have stay : ∀ {x : Nat}, x ∈ t.place.toList → x ∈ (t.put j).1.place.toList := fun hx => by rw [lay]; exact mem_ins.mpr (.inr hx)
  refine ⟨SetTable.below t.place j, rfl, rfl, nl, ⟨ris_insert T.ris new, put_dm T.dm j, by rw [len_ins _ nl]; exact size, T.mok, fun x hx => ?_, fun i g' j' h1 h2 => ?_⟩, rfl, ?_⟩
  · rw [lay] at hx
    rcases mem_ins.mp hx with rfl | hx
    · exact top
    · exact T.bd x hx
  · rw [lay, tins_get _ (by omega)] at h2
    rw [tins_get hs nl] at h1
    show ∃ k, way t.mask g' k = j' ∧ ∀ c, c < k → way t.mask g' c ∈ (t.put j).1.place.toList
    by_cases a : i < SetTable.below t.place j
    · rw [if_pos a] at h1 h2
      obtain ⟨k, e, q⟩ := T.reach i g' j' h1 h2
      exact ⟨k, e, fun c hc => stay (q c hc)⟩
    · rw [if_neg a] at h1 h2
      by_cases b : i = SetTable.below t.place j
      · rw [if_pos b] at h1 h2
        obtain rfl : g = g' := Option.some.inj h1
        obtain rfl : j = j' := Option.some.inj h2
        exact ⟨K, hj, fun c hc => stay (occ c hc)⟩
      · rw [if_neg b] at h1 h2
        obtain ⟨k, e, q⟩ := T.reach (i - 1) g' j' h1 h2
        exact ⟨k, e, fun c hc => stay (q c hc)⟩
  · show (t.put j).1.place.size + (t.put j).1.dummies.size = hs.length + 1
    rw [size, put_dm T.dm j]; rfl
/-! ### a table laid anew -/
theorem free_met {m : Nat} (hm : MaskG m) (owner : Array (Option Nat)) (g : Int) {j : Nat} (hj : j ≤ m) (hf : oAt owner j = none) :
    ∃ K, SetTable.layClean.free m owner (SetTable.turns m) (SetTable.bits g % (m + 1)) (SetTable.bits g) = some (way m g K) ∧ oAt owner (way m g K) = none ∧ ∀ c, c < K → oAt owner (way m g c) ≠ none := by
  obtain ⟨n, hn, e⟩ := runs_meet hm g hj
  have there : way m g (off m (SetTable.bits g % (m + 1)) (SetTable.bits g) n) = j := by
    unfold way; rw [nth_off, itL_run]; exact e
  obtain ⟨K, k1, k2, k3⟩ := st_least (p := fun c => oAt owner (way m g c) = none) _ (by rw [there]; exact hf)
  refine ⟨K, free_spec m owner (SetTable.turns m) n _ _ K (by unfold SetTable.turns; omega) k1 (fun c hc => ?_) ?_, k2, k3⟩
  · have q := k3 c hc
    cases z : oAt owner (way m g c) with
    | none => exact absurd z q
    | some x => rfl
  · show (oAt owner (way m g K)).isNone = true
    rw [k2]; rfl
theorem own_step {m : Nat} (hm : MaskG m) {done : List Int} {owner : Array (Option Nat)} (W : Own m done owner) (hl : done.length ≤ m) (g : Int) :
    ∃ j, SetTable.layClean.free m owner (SetTable.turns m) (SetTable.bits g % (m + 1)) (SetTable.bits g) = some j ∧ Own m (done ++ [g]) (owner.setIfInBounds j (some done.length)) := by
  obtain ⟨ps, lps, inps⟩ := W.ps
  obtain ⟨z, z1, z2⟩ := st_missing ps (m + 1) (by omega)
  have zf : oAt owner z = none := by
    cases q : oAt owner z with
    | none => rfl
    | some x => exact absurd (inps z (Nat.le_of_lt_succ z1) (by rw [q]; intro u; cases u)) z2
  obtain ⟨K, e1, e2, e3⟩ := free_met hm owner g (Nat.le_of_lt_succ z1) zf
  have top := way_most m g K
  generalize hj : way m g K = j at e1 e2 top
  have insz : j < owner.size := by rw [W.sz]; omega
  have me := oAt_set_self (some done.length) insz
  have grow : ∀ {i : Nat}, oAt owner i ≠ none → oAt (owner.setIfInBounds j (some done.length)) i ≠ none := fun {i} hi => by
    by_cases c : i = j
    · rw [c, me]; intro u; cases u
    · rw [oAt_set_ne _ c]; exact hi
  refine ⟨j, e1, by rw [Array.size_setIfInBounds]; exact W.sz, fun i k hi e => ?_, fun k hk => ?_, j :: ps, by rw [List.length_cons, List.length_append, lps]; rfl, fun i hi e => ?_⟩
  · by_cases c : i = j
    · rw [c, me] at e
      obtain rfl : done.length = k := Option.some.inj e
      exact ⟨g, K, by rw [List.getElem?_append_right (Nat.le_refl _), Nat.sub_self]; rfl, by rw [c]; exact hj, fun c hc => grow (e3 c hc)⟩
    · rw [oAt_set_ne _ c] at e
      obtain ⟨g', K', a1, a2, a3⟩ := W.at_ i k hi e
      exact ⟨g', K', by rw [List.getElem?_append_left (List.getElem?_eq_some_iff.mp a1).1]; exact a1, a2, fun c hc => grow (a3 c hc)⟩
  · by_cases c : k < done.length
    · obtain ⟨i, hi, e⟩ := W.all k c
      exact ⟨i, hi, by rw [oAt_set_ne _ (fun u => by rw [u, e2] at e; cases e)]; exact e⟩
    · have ek : k = done.length := by rw [List.length_append] at hk; simp at hk; omega
      exact ⟨j, top, by rw [ek]; exact me⟩
  · by_cases c : i = j
    · rw [c]; exact List.mem_cons_self
    · rw [oAt_set_ne _ c] at e
      exact List.mem_cons_of_mem _ (inps i hi e)
theorem own_all {m : Nat} (hm : MaskG m) : ∀ (rest done : List Int) (owner : Array (Option Nat)), Own m done owner → done.length + rest.length ≤ m → ∃ o2, rest.foldl (stepF m) (some (owner, done.length)) = some (o2, done.length + rest.length) ∧ Own m (done ++ rest) o2
  | [], done, owner, W, _ => ⟨owner, rfl, by rw [List.append_nil]; exact W⟩
  | g :: rest, done, owner, W, hl => by
    simp only [List.length_cons] at hl
    obtain ⟨j, e, W2⟩ := own_step hm W (by omega) g
    have l2 : (done ++ [g]).length = done.length + 1 := by simp
    obtain ⟨o2, f, W3⟩ := own_all hm rest (done ++ [g]) _ W2 (by omega)
    refine ⟨o2, ?_, by rw [List.append_assoc] at W3; exact W3⟩
    rw [l2] at f
    rw [List.foldl_cons, stepF_some e, f, List.length_cons]
    congr 2; omega
theorem laid_all {m : Nat} (hm : MaskG m) {hs : Array Int} (hn : hs.size ≤ m) : ∃ owner, SetTable.layClean m hs = some owner ∧ Own m hs.toList owner := by
  obtain ⟨o2, f, W⟩ := own_all hm hs.toList [] _ (Own.init m) (by simp; exact hn)
  refine ⟨o2, ?_, W⟩
  rw [layClean_eq]
  have f' : hs.toList.foldl (stepF m) (some (Array.replicate (m + 1) none, 0)) = _ := f
  rw [f']; rfl
theorem laid_anew (t : SetTable) {hs : Array Int} {wanted M : Nat} (hw : SetTable.sizeAbove wanted - 1 = M) (hM : MaskG M) (hn : hs.size ≤ M) :
    ∃ t' order, t.relaid hs wanted = some (t', order) ∧ order.toList.Perm (List.range hs.size) ∧ TabG t' (order.toList.map fun i => hs.getD i 0) ∧ t'.mask = M := by
  obtain ⟨owner, e, W⟩ := laid_all hM hn
  have r0 : t.relaid hs wanted = some (tabOf t M owner, ((liveOf M owner).map (·.2)).toArray) := by rw [relaid_eq, hw, e]; rfl
  obtain ⟨r1, r2⟩ : Ris ((liveOf M owner).map (·.1)) ∧ ∀ x ∈ (liveOf M owner).map (·.1), x ∈ List.range (M + 1) :=
    ris_live (fun j => owner.getD j none) (List.range (M + 1)) (by unfold Ris; exact List.pairwise_lt_range)
  have live : ∀ {j k : Nat}, (j, k) ∈ liveOf M owner ↔ j ≤ M ∧ oAt owner j = some k := mem_live W.sz
  have numb : ∀ k, k < hs.size → k ∈ (liveOf M owner).map (·.2) := fun k hk => by
    obtain ⟨j, b1, b2⟩ := W.all k (by rw [Array.length_toList]; exact hk)
    exact List.mem_map.mpr ⟨(j, k), live.mpr ⟨b1, b2⟩, rfl⟩
  have len : ((liveOf M owner).map (·.2)).length = hs.size := by
    obtain ⟨ps, p1, p2⟩ := W.ps
    have once : ((liveOf M owner).map (·.1)).Nodup := List.Pairwise.imp (fun h => Nat.ne_of_lt h) r1
    have up := nat_nodup_len ((liveOf M owner).map (·.1)) ps once fun x hx => by
      obtain ⟨⟨y, k⟩, hq, rfl⟩ := List.mem_map.mp hx
      obtain ⟨b1, b2⟩ := live.mp hq
      exact p2 y b1 (by rw [b2]; intro u; cases u)
    have down := nat_nodup_len (List.range hs.size) ((liveOf M owner).map (·.2)) List.nodup_range fun k hk => numb k (List.mem_range.mp hk)
    rw [List.length_range] at down
    rw [List.length_map] at up down ⊢
    have z : hs.toList.length = hs.size := rfl
    omega
  refine ⟨_, _, r0, perm_range hs.size _ len numb, ⟨r1, rfl, ?_, hM, fun x hx => Nat.le_of_lt_succ (List.mem_range.mp (r2 x hx)), fun i g j h1 h2 => ?_⟩, rfl⟩
  · show ((liveOf M owner).map (·.1)).toArray.size = (((liveOf M owner).map (·.2)).map _).length
    simp
  · have h1 : (((liveOf M owner).map (·.2)).map fun i => hs.getD i 0)[i]? = some g := h1
    have h2 : ((liveOf M owner).map (·.1))[i]? = some j := h2
    rw [List.map_map, List.getElem?_map] at h1
    rw [List.getElem?_map] at h2
    cases q : (liveOf M owner)[i]? with
    | none => rw [q] at h2; cases h2
    | some y =>
      obtain ⟨y, k⟩ := y
      rw [q] at h1 h2
      obtain rfl : y = j := Option.some.inj h2
      have eg : hs.getD k 0 = g := Option.some.inj h1
      obtain ⟨b1, b2⟩ := live.mp (List.mem_of_getElem? q)
      obtain ⟨g0, K, a1, a2, a3⟩ := W.at_ y k b1 b2
      have e0 : hs.getD k 0 = g0 := by rw [Array.getD_eq_getD_getElem?, ← Array.getElem?_toList, a1]; rfl
      obtain rfl : g0 = g := e0.symm.trans eg
      refine ⟨K, a2, fun c hc => ?_⟩
      show way M g0 c ∈ (liveOf M owner).map (·.1)
      cases z : oAt owner (way M g0 c) with
      | none => exact absurd z (a3 c hc)
      | some k2 => exact List.mem_map.mpr ⟨(way M g0 c, k2), live.mpr ⟨way_most M g0 c, z⟩, rfl⟩
theorem above_5 : SetTable.sizeAbove (SetTable.grown 5) = 32 := by decide +kernel
theorem above_19 : SetTable.sizeAbove (SetTable.grown 19) = 128 := by decide +kernel
theorem above_77 : SetTable.sizeAbove (SetTable.grown 77) = 512 := by decide +kernel
end CP
/-! Sets whose elements are objects compared by value (tuples of texts, tuples of such tuples): set(xs), s.add(x), x in s, len(s). -/
namespace CP
open PySem PySem.Spec PyProof.Rows L2

/-- how objects serve as keys: key k stands at address a; its hash; == , hash and the two quiet questions -/
structure KF (P : Program) (w : World) (κ : Type) [DecidableEq κ] where
  At : Heap → κ → Addr → Prop
  hs : κ → Int
  eqb : ∀ {A : Around} {E : Value → Shared → Prop} {s : Shared} {x y : κ} {a b : Addr} {Q : Bool → Shared → Prop}, A.units + 8 < cLine → At s.heap x a → At s.heap y b → Q (decide (x = y)) s → wpAny (model P w) A (eqBool (.ref a) (.ref b)) Q E s
  seen : ∀ {A : Around} {E : Value → Shared → Prop} {s : Shared} {x : κ} {b : Addr} {Q : Bool → Shared → Prop} {ys : List Value}, At s.heap x b → (∀ y ∈ ys, ∃ z c, y = Value.ref c ∧ At s.heap z c) → Q false s → wpAny (model P w) A (searchCouldBeSeen (.ref b) ys) Q E s
  hby : ∀ {A : Around} {E : Value → Shared → Prop} {s : Shared} {x : κ} {b : Addr} {Q : Bool → Shared → Prop}, At s.heap x b → (∀ v, Q v s) → wpAny (model P w) A (hashByValue 8 (.ref b)) Q E s
  pyh : ∀ {A : Around} {E : Value → Shared → Prop} {s : Shared} {x : κ} {b : Addr} {Q : Int → Shared → Prop}, A.units + 8 < cLine → At s.heap x b → (∀ n, Q (hs x) { s with toks := s.toks + n }) → wpAny (model P w) A (pyHash (.ref b)) Q E s
  other : ∀ {h h' : Heap} {x : κ} {a b : Addr} {o : Obj} {es : Array (Int × Value)} {ep : Nat} {t : SetTable}, At h x b → h.get? a = some o → o.data = .set es ep t → Heap.SameBut a h h' → At h' x b
  kept : ∀ {h h' : Heap} {x : κ} {b : Addr}, At h x b → (∀ c o, h.get? c = some o → h'.get? c = some o) → At h' x b

variable {P : Program} {w : World} {κ : Type} [DecidableEq κ] {F : KF P w κ} {A : Around} {E : Value → Shared → Prop} {s : Shared}

def rowsK (F : KF P w κ) (L : List (Addr × κ)) : List (Int × Value) := L.map fun p => (F.hs p.2, Value.ref p.1)
def hsK (F : KF P w κ) (L : List (Addr × κ)) : List Int := L.map fun p => F.hs p.2

/-- at a stands a set whose elements are the objects L, no two keys alike -/
structure SK (F : KF P w κ) (h : Heap) (a : Addr) (L : List (Addr × κ)) (es : Array (Int × Value)) (ep : Nat) (t : SetTable) : Prop where
  obj : ∃ o, h.get? a = some o ∧ o.ExactSet ∧ o.data = .set es ep t
  row : es.toList = rowsK F L
  tab : TabG t (hsK F L)
  nod : (L.map (·.2)).Nodup
  ats : ∀ p ∈ L, F.At h p.2 p.1
  roo : L.length * 5 < t.mask * 3
  few : L.length < 250

section
variable {a : Addr} {L : List (Addr × κ)} {es : Array (Int × Value)} {ep : Nat} {t : SetTable}
theorem rowsK_len : (rowsK F L).length = L.length := List.length_map ..
theorem hsK_len : (hsK F L).length = L.length := List.length_map ..
theorem size_of_rows (e : es.toList = rowsK F L) : es.size = L.length := by
  rw [← Array.length_toList, e, rowsK_len]
theorem SK.size (R : SK F s.heap a L es ep t) : es.size = L.length := size_of_rows R.row
theorem entry_of_rows (e : es.toList = rowsK F L) {i : Nat} {p : Addr × κ} (hp : L[i]? = some p) : es[i]? = some (F.hs p.2, Value.ref p.1) := by
  rw [← Array.getElem?_toList, e, rowsK, List.getElem?_map, hp]; rfl
theorem fits_by (h1 : t.place.size = es.size) (h2 : t.dummies = #[]) (h3 : es.size ≤ t.mask) : t.fits es.size = true := by
  simp only [SetTable.fits, SetTable.fill, h2, Bool.and_eq_true, beq_iff_eq, decide_eq_true_eq]
  exact ⟨h1, by rw [h1]; exact h3⟩
theorem SK.fit (R : SK F s.heap a L es ep t) : t.fits es.size = true := by
  have q := R.tab.sz; rw [hsK_len] at q
  have r := R.size; have u := R.roo
  exact fits_by (by omega) R.tab.dm (by omega)
theorem SK.odd (R : SK F s.heap a L es ep t) : ¬ t.gaveWay = true := by
  simp only [SetTable.gaveWay, odd_mask R.tab.mok]; decide
theorem nth_dummy (m : Nat) : ∀ (n : Nat) (p : SetTable.Probe), p.dummy = none → (nth m p n).dummy = none
  | 0, _, e => e
  | n + 1, p, e => nth_dummy m n (adv m p) (by unfold adv; split <;> exact e)

/-- the walk's start for a hash -/
abbrev st0 (m : Nat) (h : Int) : SetTable.Probe := runAt m (SetTable.bits h % (m + 1)) (SetTable.bits h)

/-- looking for k, from the c-th place of its way on; K is the first empty place -/
theorem look_from (R : SK F s.heap a L es ep t) {x : Addr} {k : κ} (hx : F.At s.heap k x) (room : A.units + 8 < cLine) {K : Nat} (lim : K < 10 * SetTable.turns t.mask)
    (fre : way t.mask (F.hs k) K ∉ t.place.toList) (occ : ∀ c, c < K → way t.mask (F.hs k) c ∈ t.place.toList) {Q : SetFound → Shared → Prop}
    {ad : Bool} (yes : ∀ r : Option Nat, r.isSome = !ad → k ∈ L.map (·.2) → Q (.there r) s) (no : k ∉ L.map (·.2) → Q (.free (way t.mask (F.hs k) K) false) s) :
    ∀ (f c : Nat) (st : Option SetTable.Probe), st.getD (t.probeStart (F.hs k)) = nth t.mask (st0 t.mask (F.hs k)) c → c ≤ K → K - c < f →
      (∀ (i : Nat) p, L[i]? = some p → p.2 = k → ∃ d, c ≤ d ∧ d < K ∧ t.place.toList[i]? = some (way t.mask (F.hs k) d)) →
      wpAny (model P w) A (setSearchFrom a (.ref x) (F.hs k) ad f st) Q E s
  | 0, _, _, _, _, z, _ => absurd z (Nat.not_lt_zero _)
  | f + 1, c, st, est, hc, hf, rest => by
    obtain ⟨o, ob1, _, ob2⟩ := R.obj
    rw [setSearchFrom_succ]
    refine wpAny_bind (wpAny_setState_of ob1 ob2 R.fit ?_); dsimp only
    refine wp_if_neg R.odd ?_
    try refine wpAny_bind (wpAny_pure ?_)
    have shift : ∀ q, nth t.mask (nth t.mask (st0 t.mask (F.hs k)) c) q = nth t.mask (st0 t.mask (F.hs k)) (c + q) := fun q => (nth_add t.mask c _ q).symm
    have place : ∀ q, (nth t.mask (nth t.mask (st0 t.mask (F.hs k)) c) q).j = way t.mask (F.hs k) (c + q) := fun q => congrArg SetTable.Probe.j (shift q)
    have look := go_spec t R.tab.ris R.tab.dm (fun i => (es[i]?.map (·.1)).getD 0) (F.hs k) (10 * SetTable.turns t.mask) (K - c) _ (nth_dummy t.mask c (st0 t.mask (F.hs k)) rfl) (by omega)
      (fun q hq => by rw [place]; exact occ (c + q) (by omega)) (by rw [place, Nat.add_sub_cancel' hc]; exact fre)
    have hashOf : ∀ (i : Nat) p, L[i]? = some p → (es[i]?.map (·.1)).getD 0 = F.hs p.2 := fun i p hp => by rw [entry_of_rows R.row hp]; rfl
    rcases look with ⟨q, i, hq, hi, _, none_before, ans⟩ | ⟨none_before, ans⟩
    · have ans' : t.probe (fun i => (es[i]?.map (·.1)).getD 0) (F.hs k) (st.getD (t.probeStart (F.hs k))) = some (.candidate (way t.mask (F.hs k) (c + q)) i (nth t.mask (st0 t.mask (F.hs k)) (c + (q + 1)))) := by
        rw [est, ← place, ← shift]; exact ans
      rw [ans']; dsimp only
      rw [place] at hi
      have inL : i < L.length := by
        have u := (List.getElem?_eq_some_iff.mp hi).1
        have v := R.tab.sz; rw [hsK_len] at v; rw [Array.length_toList] at u; omega
      obtain ⟨p, hp⟩ : ∃ p, L[i]? = some p := ⟨_, List.getElem?_eq_getElem inL⟩
      have pL : p ∈ L := List.mem_of_getElem? hp
      have go_on : wpAny (model P w) A (searchRest a (.ref x) (F.hs k) ad f es t (way t.mask (F.hs k) (c + q)) i (nth t.mask (st0 t.mask (F.hs k)) (c + (q + 1)))) Q E s := by
        unfold searchRest
        rw [entry_of_rows R.row hp]; dsimp only
        refine wpAny_bind (wpAny_holding (F.eqb room (R.ats p pL) hx ?_))
        refine wpAny_bind (wpAny_setState_of ob1 ob2 R.fit ?_); dsimp only
        by_cases same : p.2 = k
        · cases ad with
          | true => refine wp_if_pos (by simp [same]) (wpAny_pure (yes none rfl (List.mem_map.mpr ⟨p, pL, same⟩)))
          | false =>
            refine wp_if_neg (by simp) ?_
            try refine wpAny_bind (wpAny_pure ?_)
            rw [sameMem]; dsimp only
            have live := slot_live R.tab.ris hi
            simp only [if_true, live, entry_of_rows R.row hp]
            refine wpAny_bind (wpAny_isSame_ref_self (wpAny_bind (wpAny_pure ?_)))
            simp only [if_true]
            refine wp_if_pos (by simp [same]) (wpAny_pure (yes (some i) rfl (List.mem_map.mpr ⟨p, pL, same⟩)))
        · refine wp_if_neg (by simp [same]) ?_
          try refine wpAny_bind (wpAny_pure ?_)
          rw [sameMem]; dsimp only
          have live := slot_live R.tab.ris hi
          simp only [if_true, live, entry_of_rows R.row hp]
          refine wpAny_bind (wpAny_isSame_ref_self (wpAny_bind (wpAny_pure ?_)))
          simp only [if_true]
          refine wp_if_neg (by simp [same]) (look_from R hx room lim fre occ yes no f (c + (q + 1)) _ rfl (by omega) (by omega) fun j r hj er => ?_)
          obtain ⟨d, d1, d2, d3⟩ := rest j r hj er
          refine ⟨d, ?_, d2, d3⟩
          rcases Nat.lt_trichotomy d (c + q) with lt | eq | gt
          · exact absurd ((hashOf j r hj).trans (congrArg F.hs er)) (none_before (d - c) j (by omega) (by rw [place, Nat.add_sub_cancel' d1]; exact d3))
          · rw [eq] at d3
            have l2 := slot_live R.tab.ris d3
            rw [live] at l2; injection l2 with l2
            rw [← l2, hp] at hj
            exact absurd ((congrArg Prod.snd (Option.some.inj hj)).trans er) same
          · omega
      by_cases led : t.led = true
      · refine wp_if_neg (by simp [led]) ?_
        try refine wpAny_bind (wpAny_pure ?_)
        exact go_on
      · refine wp_if_pos (by simp [led]) (wpAny_bind (F.seen hx (fun y hy => ?_) ?_))
        · obtain ⟨r, hr, rfl⟩ := List.mem_map.mp hy
          have hr1 : r ∈ es.toList := by
            have : r ∈ es ∧ r.1 = F.hs k := by simpa using hr
            simpa using this.1
          rw [R.row] at hr1
          obtain ⟨p2, hp2, rfl⟩ := List.mem_map.mp hr1
          exact ⟨p2.2, p2.1, rfl, R.ats p2 hp2⟩
        · refine wp_if_neg (by decide) ?_
          try refine wpAny_bind (wpAny_pure ?_)
          exact go_on
    · have ans' : t.probe (fun i => (es[i]?.map (·.1)).getD 0) (F.hs k) (st.getD (t.probeStart (F.hs k))) = some (.empty (way t.mask (F.hs k) K) none) := by
        have e2 := place (K - c); rw [Nat.add_sub_cancel' hc] at e2
        rw [est, ← e2]; exact ans
      rw [ans']; dsimp only
      refine wpAny_pure (no fun hm => ?_)
      obtain ⟨r, hr, er⟩ := List.mem_map.mp hm
      obtain ⟨j, hj⟩ := List.getElem?_of_mem hr
      obtain ⟨d, d1, d2, d3⟩ := rest j r hj er
      exact none_before (d - c) j (by omega) (by rw [place, Nat.add_sub_cancel' d1]; exact d3) ((hashOf j r hj).trans (congrArg F.hs er))

theorem look_for (R : SK F s.heap a L es ep t) {x : Addr} {k : κ} (hx : F.At s.heap k x) (room : A.units + 8 < cLine) {Q : SetFound → Shared → Prop} {ad : Bool} (yes : ∀ r : Option Nat, r.isSome = !ad → k ∈ L.map (·.2) → Q (.there r) s)
    (no : ∀ K, k ∉ L.map (·.2) → way t.mask (F.hs k) K ∉ t.place.toList → (∀ c, c < K → way t.mask (F.hs k) c ∈ t.place.toList) → Q (.free (way t.mask (F.hs k) K) false) s) :
    wpAny (model P w) A (setSearch a (.ref x) (F.hs k) ad) Q E s := by
  have u := R.roo
  obtain ⟨K, lim, fre, occ⟩ := R.tab.first (by rw [hsK_len]; omega) (F.hs k)
  have small : 10 * SetTable.turns t.mask ≤ 5260 := by
    unfold SetTable.turns; rcases R.tab.mok with e | e | e | e <;> omega
  unfold setSearch
  refine look_from R hx room lim fre occ yes (fun z => no K z fre occ) 100000 0 none rfl (Nat.zero_le _) (by omega) fun i p hp ek => ?_
  have hh : (hsK F L)[i]? = some (F.hs k) := by rw [hsK, List.getElem?_map, hp, ← ek]; rfl
  have hl : i < t.place.toList.length := by
    have v := R.tab.sz; rw [hsK_len] at v
    have u := (List.getElem?_eq_some_iff.mp hp).1; rw [Array.length_toList]; omega
  obtain ⟨c, c1, c2⟩ := R.tab.before fre hh (List.getElem?_eq_getElem hl)
  exact ⟨c, Nat.zero_le _, c1, by rw [List.getElem?_eq_getElem hl, c2]⟩
end
section
variable {a : Addr} {L : List (Addr × κ)} {es : Array (Int × Value)} {ep : Nat} {t : SetTable}
theorem pick_rows (L : List (Addr × κ)) (e : es.toList = rowsK F L) : ∀ l : List Nat, (∀ i ∈ l, i < L.length) →
    l.filterMap (fun i => es[i]?) = rowsK F (l.filterMap fun i => L[i]?) ∧ hsK F (l.filterMap fun i => L[i]?) = l.map fun i => (es.map (·.1)).getD i 0
  | [], _ => ⟨rfl, rfl⟩
  | i :: l, hl => by
    have hi := hl i List.mem_cons_self
    obtain ⟨p, hp⟩ : ∃ p, L[i]? = some p := ⟨_, List.getElem?_eq_getElem hi⟩
    obtain ⟨e1, e2⟩ := pick_rows L e l fun j hj => hl j (List.mem_cons_of_mem _ hj)
    have q := entry_of_rows e hp
    have q2 : (es.map (·.1)).getD i 0 = F.hs p.2 := by
      rw [Array.getD_eq_getD_getElem?, Array.getElem?_map, q]; rfl
    refine ⟨?_, ?_⟩
    · rw [List.filterMap_cons_some q, List.filterMap_cons_some hp, e1]; rfl
    · rw [List.filterMap_cons_some hp, List.map_cons, q2, ← e2]; rfl
theorem pick_all {α : Type} (L : List α) : ∀ n, n ≤ L.length → (List.range n).filterMap (fun i => L[i]?) = L.take n
  | 0, _ => rfl
  | n + 1, hn => by
    rw [List.range_succ, List.filterMap_append, pick_all L n (Nat.le_of_lt hn), List.take_succ, List.filterMap_cons, List.getElem?_eq_getElem hn]; rfl
theorem pick_perm {α : Type} (L : List α) {l : List Nat} (h : l.Perm (List.range L.length)) : (l.filterMap fun i => L[i]?).Perm L := by
  have q := h.filterMap fun i => L[i]?
  rw [pick_all L _ (Nat.le_refl _), List.take_length] at q
  exact q

/-- is k in it -/
theorem find_in (R : SK F s.heap a L es ep t) {x : Addr} {k : κ} (hx : F.At s.heap k x) (room : A.units + 8 < cLine) {Q : Option Nat → Shared → Prop} (hQ : ∀ r : Option Nat, r.isSome = decide (k ∈ L.map (·.2)) → Q r s) :
    wpAny (model P w) A (setFind a (.ref x) (F.hs k)) Q E s := by
  obtain ⟨o, ob1, obx, ob2⟩ := R.obj
  unfold setFind
  rw [show (100000 : Nat) = 99999 + 1 from rfl]
  unfold setFindIn
  refine wpAny_bind (wpAny_setState_of ob1 ob2 R.fit ?_); dsimp only
  refine wp_if_neg (by simp [byScan, Value.scannable]) ?_
  try refine wpAny_bind (wpAny_pure ?_)
  refine wpAny_bind (look_for R hx room (fun r hr hm => ?_) fun K hm fre occ => ?_)
  · exact wpAny_pure (hQ r (by rw [hr, decide_eq_true hm]; rfl))
  · exact wpAny_pure (hQ none (by rw [decide_eq_false hm]; rfl))

/-- the table laid anew, with more places -/
theorem lay_anew {o : Obj} (ob1 : s.heap.get? a = some o) (obx : o.ExactSet) (ob2 : o.data = .set es ep t) (row : es.toList = rowsK F L) (pz : t.place.size = es.size) (dm : t.dummies = #[]) (le : es.size ≤ t.mask)
    (nod : (L.map (·.2)).Nodup) (ats : ∀ p ∈ L, F.At s.heap p.2 p.1) (few : L.length < 250) {n M : Nat} (hM : SetTable.sizeAbove n - 1 = M) (ok : MaskG M) (most : SetTable.sizeAbove n ≤ 512) (roo : L.length * 5 < M * 3) {Q : Unit → Shared → Prop}
    (hQ : ∀ h' L' es' ep' t', Heap.SameBut a s.heap h' → SK F h' a L' es' ep' t' → L'.Perm L → Q () { s with heap := h' }) : wpAny (model P w) A (setRelay a n) Q E s := by
  have sz := size_of_rows row
  obtain ⟨t', ord, er, pm, T, em⟩ := laid_anew t (hs := es.map (·.1)) (wanted := n) hM ok (by rw [Array.size_map, sz]; omega)
  rw [Array.size_map, sz] at pm
  obtain ⟨r1, r2⟩ := pick_rows L row ord.toList fun i hi => List.mem_range.mp (pm.mem_iff.mp hi)
  have pL := pick_perm L pm
  rw [← r2] at T
  generalize (ord.toList.filterMap fun i => L[i]?) = L2 at r1 r2 pL T
  have r3 : (ord.filterMap (es[·]?)).toList = rowsK F L2 := by rw [← r1]; simp
  have z2 : (ord.filterMap (es[·]?)).size = es.size := by rw [size_of_rows r3, pL.length_eq, sz]
  rw [setRelay_eq]
  refine wpAny_bind (wpAny_setState_of ob1 ob2 (fits_by pz dm le) ?_); dsimp only
  refine wp_if_neg (by rw [sizeLine_eq]; omega) ?_
  try refine wpAny_bind (wpAny_pure ?_)
  rw [er]; dsimp only
  refine wpAny_bind (wp_if_neg (by rw [z2]; simp) ?_)
  try refine wpAny_bind (wpAny_pure ?_)
  refine wpAny_pure ?_; dsimp only
  refine wpAny_storeSet_of ob1 ob2 ?_ (by rw [z2, sz, sizeLine_eq]; omega)
  have sb : Heap.SameBut a s.heap (s.heap.update a (Obj.putSet (ord.filterMap (es[·]?)) t')) := Heap.SameBut.update ..
  exact hQ _ L2 _ _ _ sb ⟨⟨_, store_at ob1 ob2, ⟨obx.1, obx.2.1, obx.2.2⟩, rfl⟩, r3, T, (pL.map (·.2)).nodup_iff.mpr nod, fun p hp => F.other (ats p (pL.mem_iff.mp hp)) ob1 ob2 sb, by rw [pL.length_eq, em]; exact roo, by rw [pL.length_eq]; exact few⟩ pL

def marked (v : Bool) (t : SetTable) : SetTable := if v = true then t else { t with plain := false }
theorem plainly (v : Bool) {hs : List Int} (T : TabG t hs) : TabG (marked v t) hs := by
  cases v
  · exact ⟨T.ris, T.dm, T.sz, T.mok, T.bd, T.reach⟩
  · exact T
theorem marked_mask (v : Bool) (t : SetTable) : (marked v t).mask = t.mask := by cases v <;> rfl
theorem marked_fill (v : Bool) (t : SetTable) : (marked v t).fill = t.fill := by cases v <;> rfl
theorem by_value {β : Type} {x : Addr} {k : κ} (hx : F.At s.heap k x) {f : Bool → Sem β} {Q : β → Shared → Prop} (h : ∀ v, wpAny (model P w) A (f v) Q E s) : wpAny (model P w) A (if t.plain = true then (hashByValue 8 (.ref x) >>= f) else (pure true >>= f)) Q E s := by
  by_cases c : t.plain = true
  · exact wp_if_pos c (wpAny_bind (F.hby hx h))
  · exact wp_if_neg c (wpAny_bind (wpAny_pure (h true)))
/-- one element more -/
theorem put_in (R : SK F s.heap a L es ep t) {x : Addr} {k : κ} (hx : F.At s.heap k x) (room : A.units + 8 < cLine) (fewer : L.length + 1 < 250) {Q : Bool → Shared → Prop}
    (hQ : ∀ b h' L' es' ep' t', Heap.SameBut a s.heap h' → SK F h' a L' es' ep' t' → (k ∈ L.map (·.2) → L' = L) → (k ∉ L.map (·.2) → L'.Perm ((x, k) :: L)) → Q b { s with heap := h' }) :
    wpAny (model P w) A (setAddHashed a (.ref x) (F.hs k)) Q E s := by
  obtain ⟨o, ob1, obx, ob2⟩ := R.obj
  have sz := R.size
  have roo := R.roo
  unfold setAddHashed
  refine wpAny_holding ?_
  rw [show (100000 : Nat) = 99999 + 1 from rfl, setAddHashedIn_succ]
  refine wpAny_bind (wpAny_setState_of ob1 ob2 R.fit ?_); dsimp only
  refine wp_if_neg (by simp [byScan, Value.scannable]) ?_
  try refine wpAny_bind (wpAny_pure ?_)
  refine wpAny_bind (look_for R hx room (fun r hr hm => ?_) fun K hm fre occ => ?_)
  · exact wpAny_pure (hQ false s.heap L es ep t (Heap.SameBut.refl a s.heap) R (fun _ => rfl) fun z => absurd hm z)
  · dsimp only
    refine wpAny_bind (wpAny_setState_of ob1 ob2 R.fit ?_); dsimp only
    obtain ⟨n0, q0, q1, q2, q3, q4, q9⟩ := R.tab.put fre occ
    generalize t.put (way t.mask (F.hs k) K) = pt at q1 q3 q4 q9 ⊢
    obtain ⟨t1, n⟩ := pt
    dsimp only at q1 q3 q4 q9 ⊢
    subst q1
    refine by_value hx fun v => ?_
    replace q3 := plainly v q3
    replace q4 : (marked v t1).mask = t.mask := (marked_mask v t1).trans q4
    replace q9 : (marked v t1).fill = _ := (marked_fill v t1).trans q9
    show wpAny _ _ (storeSet a _ (marked v t1) >>= fun _ => if (!false && (marked v t1).tooFull) = true then (setRelay a _ >>= fun _ => pure true) else pure true) _ _ _
    generalize marked v t1 = t1 at q3 q4 q9 ⊢
    clear q0
    have pm := put_perm L n (x, k)
    have row1 : (SetTable.insertAt es n (F.hs k, Value.ref x)).toList = rowsK F (L.take n ++ (x, k) :: L.drop n) := by
      rw [SetTable.toList_insertAt, R.row]
      simp only [rowsK, List.map_append, List.map_cons, List.map_take, List.map_drop]
    have hh1 : hsK F (L.take n ++ (x, k) :: L.drop n) = (hsK F L).take n ++ F.hs k :: (hsK F L).drop n := by
      simp only [hsK, List.map_append, List.map_cons, List.map_take, List.map_drop]
    rw [← hh1] at q3
    have nod1 : ((L.take n ++ (x, k) :: L.drop n).map (·.2)).Nodup := (pm.map (·.2)).nodup_iff.mpr (by rw [List.map_cons]; exact List.nodup_cons.mpr ⟨hm, R.nod⟩)
    generalize SetTable.insertAt es n (F.hs k, Value.ref x) = es1 at row1 ⊢
    generalize L.take n ++ (x, k) :: L.drop n = L1 at pm q3 nod1 row1
    have len1 : L1.length = L.length + 1 := pm.length_eq
    have sz1 : es1.size = L.length + 1 := (size_of_rows row1).trans len1
    refine wpAny_bind (wpAny_storeSet_of ob1 ob2 ?_ (by rw [sz1, sizeLine_eq]; omega))
    have sb : Heap.SameBut a s.heap (s.heap.update a (Obj.putSet es1 t1)) := Heap.SameBut.update ..
    have ob3 := store_at (es' := es1) (t' := t1) ob1 ob2
    generalize s.heap.update a (Obj.putSet es1 t1) = h1 at sb ob3 ⊢
    have ats1 : ∀ p ∈ L1, F.At h1 p.2 p.1 := fun p hp => by
      rcases List.mem_cons.mp (pm.mem_iff.mp hp) with rfl | hp
      · exact F.other hx ob1 ob2 sb
      · exact F.other (R.ats p hp) ob1 ob2 sb
    have full : t1.tooFull = decide ((L.length + 1) * 5 ≥ t1.mask * 3) := by
      unfold SetTable.tooFull; rw [q9, hsK_len]
    by_cases hf : (L.length + 1) * 5 ≥ t1.mask * 3
    · rw [full, decide_eq_true hf]
      first
        | (refine wpAny_bind ?_; refine wp_if_pos (by simp) ?_)
        | (refine wp_if_pos (by simp) ?_; refine wpAny_bind ?_)
      rw [sz]
      have pz1 : t1.place.size = es1.size := by have v := q3.sz; rw [hsK_len, len1] at v; rw [v, sz1]
      have two : (t.mask = 7 ∧ L.length = 4) ∨ (t.mask = 31 ∧ L.length = 18) ∨ (t.mask = 127 ∧ L.length = 76) := by
        rw [q4] at hf
        rcases R.tab.mok with e | e | e | e <;> rw [e] at hf roo
        · exact .inl ⟨e, by omega⟩
        · exact .inr (.inl ⟨e, by omega⟩)
        · exact .inr (.inr ⟨e, by omega⟩)
        · omega
      have more : ∀ M, SetTable.sizeAbove (SetTable.grown (L.length + 1)) - 1 = M → MaskG M → SetTable.sizeAbove (SetTable.grown (L.length + 1)) ≤ 512 → (L.length + 1) * 5 < M * 3 →
          wpAny (model P w) A (setRelay a (SetTable.grown (L.length + 1))) (fun _ s' => wpAny (model P w) A (pure true) Q E s') E { s with heap := h1 } := fun M m1 m2 m3 m4 =>
        lay_anew (s := { s with heap := h1 }) ob3 ⟨obx.1, obx.2.1, obx.2.2⟩ rfl row1 pz1 q3.dm (by rw [sz1, q4]; rcases two with ⟨e, e2⟩ | ⟨e, e2⟩ | ⟨e, e2⟩ <;> omega) nod1 ats1 (by rw [len1]; exact fewer) m1 m2 m3 (by rw [len1]; exact m4)
          fun h2 L2 es2 ep2 t2 sb2 R2 pm2 => wpAny_pure (hQ true h2 L2 es2 ep2 t2 (sb.trans sb2) R2 (fun z => absurd z hm) fun _ => pm2.trans pm)
      rcases two with ⟨_, e2⟩ | ⟨_, e2⟩ | ⟨_, e2⟩
      · exact more 31 (by rw [e2, above_5]) (.inr (.inl rfl)) (by rw [e2, above_5]; decide) (by omega)
      · exact more 127 (by rw [e2, above_19]) (.inr (.inr (.inl rfl))) (by rw [e2, above_19]; decide) (by omega)
      · exact more 511 (by rw [e2, above_77]) (.inr (.inr (.inr rfl))) (by rw [e2, above_77]; decide) (by omega)
    · rw [full, decide_eq_false hf]
      first
        | refine wp_if_neg (by simp) ?_
        | (refine wpAny_bind ?_; refine wp_if_neg (by simp) ?_; refine wpAny_pure ?_)
      exact wpAny_pure (hQ true h1 L1 es1 (ep + 1) t1 sb ⟨⟨_, ob3, ⟨obx.1, obx.2.1, obx.2.2⟩, rfl⟩, row1, q3, nod1, ats1, by rw [len1]; omega, by rw [len1]; exact fewer⟩ (fun z => absurd z hm) fun _ => pm)
end
section
/-- what the set has from the first i of ks -/
structure Has (ks : List (Addr × κ)) (i : Nat) (L : List (Addr × κ)) : Prop where
  sub : ∀ p ∈ L, p ∈ ks.take i
  all : ∀ p ∈ ks.take i, p.2 ∈ L.map (·.2)
  len : L.length ≤ i
  full : (ks.map (·.2)).Nodup → L.length = i
  once : L.length = i → ((ks.take i).map (·.2)).Nodup
theorem take_one {α : Type} {l : List α} {i : Nat} {x : α} (h : l[i]? = some x) : l.take (i + 1) = l.take i ++ [x] := by rw [List.take_succ, h]; rfl
theorem Has.none (ks : List (Addr × κ)) : Has ks 0 [] := ⟨(fun _ z => nomatch z), (fun _ z => by simp at z), Nat.le_refl _, fun _ => rfl, fun _ => List.nodup_nil⟩
theorem Has.next {ks L L' : List (Addr × κ)} {i : Nat} {x : Addr × κ} (g : Has ks i L) (hx : ks[i]? = some x) (c1 : x.2 ∈ L.map (·.2) → L' = L) (c2 : x.2 ∉ L.map (·.2) → L'.Perm (x :: L)) : Has ks (i + 1) L' := by
  by_cases c : x.2 ∈ L.map (·.2)
  · rw [c1 c]
    refine ⟨fun p hp => ?_, fun p hp => ?_, Nat.le_succ_of_le g.len, fun nd => ?_, fun z => absurd z (Nat.ne_of_lt (Nat.lt_succ_of_le g.len))⟩
    · rw [take_one hx]; exact List.mem_append_left _ (g.sub p hp)
    · rw [take_one hx] at hp
      rcases List.mem_append.mp hp with z | z
      · exact g.all p z
      · rw [List.mem_singleton.mp z]; exact c
    · exfalso
      obtain ⟨p, hp, e⟩ := List.mem_map.mp c
      obtain ⟨j, hj⟩ := List.getElem?_of_mem (g.sub p hp)
      have hji : j < i := Nat.lt_of_lt_of_le (List.getElem?_eq_some_iff.mp hj).1 (List.length_take_le _ _)
      rw [List.getElem?_take_of_lt hji] at hj
      have a1 : (ks.map (·.2))[j]? = some x.2 := by rw [List.getElem?_map, hj, ← e]; rfl
      have a2 : (ks.map (·.2))[i]? = some x.2 := by rw [List.getElem?_map, hx]; rfl
      obtain ⟨b1, e1⟩ := List.getElem?_eq_some_iff.mp a1
      obtain ⟨b2, e2⟩ := List.getElem?_eq_some_iff.mp a2
      exact (List.pairwise_iff_getElem.mp nd) j i b1 b2 hji (e1.trans e2.symm)
  · have pm := c2 c
    refine ⟨fun p hp => ?_, fun p hp => ?_, by rw [pm.length_eq]; exact Nat.succ_le_succ g.len, fun nd => by rw [pm.length_eq, List.length_cons, g.full nd], fun z => ?_⟩
    · rw [take_one hx]
      rcases List.mem_cons.mp (pm.mem_iff.mp hp) with rfl | z
      · exact List.mem_append_right _ (List.mem_singleton.mpr rfl)
      · exact List.mem_append_left _ (g.sub p z)
    · rw [(pm.map (·.2)).mem_iff, List.map_cons]
      rw [take_one hx] at hp
      rcases List.mem_append.mp hp with z | z
      · exact List.mem_cons_of_mem _ (g.all p z)
      · rw [List.mem_singleton.mp z]; exact List.mem_cons_self
    · rw [pm.length_eq, List.length_cons] at z
      have nd := g.once (by omega)
      rw [take_one hx, List.map_append]
      refine List.nodup_append.mpr ⟨nd, by simp, fun y hy y' hy' e => c ?_⟩
      simp at hy'
      obtain ⟨p, hp, ep⟩ := List.mem_map.mp hy
      rw [← hy', ← e, ← ep]; exact g.all p hp
theorem SK.kept {h h' : Heap} {a : Addr} {L : List (Addr × κ)} {es : Array (Int × Value)} {ep : Nat} {t : SetTable} (R : SK F h a L es ep t) (ha : ∀ o, h.get? a = some o → h'.get? a = some o) (ht : ∀ p ∈ L, F.At h' p.2 p.1) : SK F h' a L es ep t := by
  obtain ⟨o, ob, r⟩ := R.obj
  exact ⟨⟨o, ha o ob, r⟩, R.row, R.tab, R.nod, ht, R.roo, R.few⟩
theorem SK.new {h : Heap} {a : Addr} {b : Bool} (ho : h.get? a = some { cls := .type "set", dict := none, data := .set #[] 0 (.fresh 0 0 b) }) : SK F h a [] #[] 0 (.fresh 0 0 b) :=
  ⟨⟨_, ho, ⟨rfl, rfl, rfl⟩, rfl⟩, rfl, ⟨List.Pairwise.nil, rfl, rfl, .inl rfl, fun _ z => (by cases z), fun _ _ _ z => (by simp [hsK] at z)⟩, List.nodup_nil, fun _ z => (by cases z), (by show 0 * 5 < 7 * 3; decide), (by show 0 < 250; decide)⟩

end
end CP
namespace CP
open PySem PySem.Spec PyProof.Rows L2
variable {P : Program} {w : World} {A : Around} {E : Value → Shared → Prop} {s : Shared}
section
variable {a : Addr}
/-- what a set filled item by item holds: J i h, «behind i items», S its place, h0 the heap ahead -/
structure Fills (P : Program) (w : World) (u : Nat) (E : Value → Shared → Prop) (S : Addr) (items : Array Value) (h0 : Heap) (J : Nat → Heap → Prop) : Prop where
  zero : ∀ (h : Heap) (b : Bool), h.get? S = some { cls := .type "set", dict := none, data := .set #[] 0 (.fresh 0 0 b) } → (∀ c o, h0.get? c = some o → h.get? c = some o) → J 0 h
  keep : ∀ (i : Nat) (h h' : Heap), J i h → (∀ o, h.get? S = some o → h'.get? S = some o) → (∀ c o, h0.get? c = some o → h'.get? c = some o) → J i h'
  step : ∀ (A' : Around) (i : Nat) (v : Value) (s' : Shared), A'.units ≤ u → items[i]? = some v → J i s'.heap → (∀ c o, h0.get? c = some o → s'.heap.get? c = some o) → ∀ Q : Bool → Shared → Prop,
    (∀ (b : Bool) (h' : Heap) (n : Nat), Heap.SameBut S s'.heap h' → J (i + 1) h' → Q b { s' with heap := h', toks := s'.toks + n }) → wpAny (model P w) A' (setAdd S v) Q E s'

theorem fills_loop {I : Addr} {fp wr : List Addr} {G : Array GenState → Array GenState → Prop} {items : Array Value} {St : Nat → Shared → Prop} {R : Result → Shared → Prop} {u : Nat} {h0 : Heap} {J : Nat → Heap → Prop} {S : Addr}
    (W : WalksS P w A.in1 I fp wr G items.size (fun i v => items[i]? = some v) St) (off : S ∉ fp) (freeS : h0.get? S = none) (freeW : ∀ b ∈ wr, h0.get? b = none) (hu : A.in1.units ≤ u)
    (T : ∀ E, Fills P w u E S items h0 J) :
    ∀ (k i : Nat) (s : Shared), items.size - i = k → i ≤ items.size → St i s → (∀ b o, h0.get? b = some o → s.heap.get? b = some o) → J i s.heap →
      (∀ s', Moved (S :: wr) G s s' → J items.size s'.heap → (∀ b o, h0.get? b = some o → s'.heap.get? b = some o) → R (.ok (.ret .none)) s') →
      codeAny (model P w) A (.builtin "set.update.loop" ⟨[.ref S, .ref I], []⟩) R s := by
  have offW : S ∉ wr := fun z => off (W.sub _ z)
  have wider : ∀ b ∈ wr, b ∈ S :: wr := fun b => List.mem_cons_of_mem _
  have still : ∀ {s s' : Shared}, Moved wr G s s' → (∀ b o, h0.get? b = some o → s.heap.get? b = some o) → ∀ b o, h0.get? b = some o → s'.heap.get? b = some o := fun m q b o e =>
    m.heap b o (fun z => by rw [freeW b z] at e; cases e) (q b o e)
  intro k
  induction k with
  | zero =>
    intro i s hk' hi hst hkp hJ hR
    obtain rfl : i = items.size := by omega
    refine codeAny_builtin PyProof.Rows.F.entry_set_update_loop ?_
    rw [Around.under_plainId PyProof.Rows.F.plain_set_update_loop _]
    show wpAny _ A.in1 (pyNext (.ref I) >>= _) _ _ s
    refine wpAny_bind (W.done s _ _ hst fun s' m => ?_)
    show wpAny _ A.in1 (ret Value.none) _ _ s'
    exact wpAny_pure (hR s' (m.mono wider) ((T (fun _ _ => False)).keep _ _ _ hJ (fun o e => m.heap S o offW e) (still m hkp)) (still m hkp))
  | succ k ih =>
    intro i s hk' hi hst hkp hJ hR
    have lt : i < items.size := by omega
    refine codeAny_builtin PyProof.Rows.F.entry_set_update_loop ?_
    rw [Around.under_plainId PyProof.Rows.F.plain_set_update_loop _]
    show wpAny _ A.in1 (pyNext (.ref I) >>= _) _ _ s
    refine wpAny_bind (W.item i s _ _ lt hst fun v s' pv hst' m => ?_)
    have q := still m hkp
    show wpAny _ A.in1 (holding [v] (setAdd S v) >>= _) _ _ s'
    refine wpAny_bind (wpAny_holding ((T _).step A.in1 i v s' hu pv ((T (fun _ _ => False)).keep _ _ _ hJ (fun o e => m.heap S o offW e) q) q _ fun b h' tn sb J' => ?_))
    have q2 : ∀ b o, h0.get? b = some o → h'.get? b = some o := fun b o e => (sb.2 b (fun z => by rw [z, freeS] at e; cases e)).trans (q b o e)
    refine wpAny_pure ⟨plainId_quiet PyProof.Rows.F.plain_set_update_loop _, ih (i + 1) _ (by omega) lt (W.frame _ s' _ _ hst' (Nat.le_add_right _ _) fun b hb o e => ?_) q2 J' fun s'' m'' J'' q'' => ?_⟩
    · rw [sb.2 b (fun z : b = S => off (z ▸ hb))]; exact e
    · refine hR s'' (Moved.trans W.gtrans ((m.mono wider).then_heap (Nat.le_add_right _ _) fun b o hb e => ?_) m'') J'' q''
      rw [sb.2 b (fun z : b = S => hb (by rw [z]; exact List.mem_cons_self))]; exact e

abbrev newSet (w : World) : Obj := { cls := .type "set", dict := none, data := .set #[] 0 (.fresh 0 0 (!w.params.followText "set-order")) }
theorem free_above {h : Heap} {b : Addr} (hb : h.objs.size ≤ b) : h.get? b = none := by
  cases q : h.get? b with
  | none => rfl
  | some o => exact absurd (Nat.lt_of_lt_of_le (Heap.lt_size q) hb) (Nat.lt_irrefl _)
/-- set(xs), xs a list or a tuple -/
theorem set_of_seq {l : Addr} {items : Array Value} {Q : Value → Shared → Prop} {J : Nat → Heap → Prop} {ty it : String} {od : Option Addr} {nl : Nat} {os : Array (Option Value)} {St : Addr → Nat → Heap → Prop}
    (hol : s.heap.get? l = some { cls := .type ty, dict := od, data := .seq items nl, slots := os }) (n1 : isSubtype (.type ty) (.type "set") = pure false) (n2 : isSubtype (.type ty) (.type "frozenset") = pure false) (n3 : (Value.type ty == Value.type "dict") = false)
    (beg : ∀ {A : Around} {E : Value → Shared → Prop} {s1 : Shared} {Q : Value → Shared → Prop}, s1.heap.get? l = some { cls := .type ty, dict := od, data := .seq items nl, slots := os } → Q (.ref s1.heap.objs.size) { s1 with heap := s1.heap.push { cls := .type it, data := .fields #[.ref l, .int 0 0] } } → wpAny (model P w) A (pyIter (.ref l)) Q E s1)
    (W : ∀ I, l ≠ I → Walks P w A.in1.in1.in1 I [I, l] [I] items.size (fun i v => items[i]? = some v) (St I))
    (St0 : ∀ h : Heap, h.get? l = some { cls := .type ty, dict := od, data := .seq items nl, slots := os } → St h.objs.size 0 (h.push { cls := .type it, data := .fields #[.ref l, .int 0 0] })) (T : ∀ E, Fills P w (A.units + 3) E s.heap.objs.size items s.heap J)
    (h : ∀ (h' : Heap) (tk : Nat), J items.size h' → (∀ b o, s.heap.get? b = some o → h'.get? b = some o) → Q (.ref s.heap.objs.size) { s with heap := h', toks := tk }) :
    wpAny (model P w) A (call (.type "set") [.ref l]) Q E s := by
  obtain ⟨c, tl, m1⟩ := PySem.F.called_set.mro
  have m2 := PySem.F.called_set.made
  have m3 := PySem.F.called_set.sub
  refine wpAny_call (codeAny_of_tree ?_); show wpAny _ _ (callAny (.type "set") _) _ _ _
  refine wpAny_pure ⟨Code.quiet_builtin _ (by decide +kernel), codeAny_builtin PySem.F.entry_type_call ?_⟩
  rw [Around.under_plain (weight_type_call_type "set" [.ref l] []) rfl]
  have m4 := PySem.F.called_set.notType
  have m5 := PySem.F.called_set.canCreate
  have m6 := PySem.F.typeCall_set_1 (.ref l)
  repeat (any_goals (first | assumption | wp_step))
  refine codeAny_mono (code_set_led1 (.ref l) (E := E) (Q₁ := fun v s₁ => v = .ref s.heap.objs.size ∧ s₁ = { s with heap := s.heap.push (newSet w) }) ⟨rfl, rfl⟩) fun r s₁ hr => ?_
  cases r with
  | error e => exact hr
  | ok fl =>
    cases fl with
    | ret obj =>
      obtain ⟨rfl, rfl⟩ := hr
      have atS : (s.heap.push (newSet w)).get? s.heap.objs.size = some (newSet w) := Heap.get?_push_size _ rfl
      have tyS : Shared.TypeIs { s with heap := s.heap.push (newSet w) } (.ref s.heap.objs.size) "set" := ⟨_, atS, rfl⟩
      have m7 := PySem.F.called_set.init.lookup
      have m8 := PySem.F.called_set.init.bind (.ref s.heap.objs.size)
      repeat (any_goals (first | assumption | wp_step))
      refine codeAny_mono (codeAny_call_builtin (R := wants (fun r s₂ => r = .none ∧ ∃ h' tk, s₂ = { s with heap := h', toks := tk } ∧ J items.size h' ∧ (∀ b o, s.heap.get? b = some o → h'.get? b = some o)) E)
        PySem.F.called_set.init.plain PySem.F.entry_set_init (check_set_init_1 tyS ?_)) fun r₂ s₂ hr₂ => ?_
      · have hol' : (s.heap.push (newSet w)).get? l = some { cls := .type ty, dict := od, data := .seq items nl, slots := os } := Heap.get?_push_of_some _ hol
        unfold Builtin.«set.__init__» noKeywords Builtin.Frozenset.updateFrom
        generalize hPI : pyIter = PI
        wp_walk
        subst hPI
        refine beg hol' (wpAny_bind (wpAny_runValue ?_))
        have ll : l < s.heap.objs.size := Heap.lt_size hol
        have nI : l ≠ (s.heap.push (newSet w)).objs.size := by rw [Heap.size_push]; exact Nat.ne_of_lt (Nat.lt_succ_of_lt ll)
        have off : s.heap.objs.size ∉ [(s.heap.push (newSet w)).objs.size, l] := by
          rw [Heap.size_push]; simp only [List.mem_cons, List.not_mem_nil, or_false, not_or]
          exact ⟨Nat.ne_of_lt (Nat.lt_succ_self _), Nat.ne_of_gt ll⟩
        have up : ∀ b o, s.heap.get? b = some o → ((s.heap.push (newSet w)).push { cls := .type it, data := .fields #[.ref l, .int 0 0] }).get? b = some o := fun b o e => Heap.get?_push_of_some _ (Heap.get?_push_of_some _ e)
        refine fills_loop ((W _ nI).toS) off (free_above (Nat.le_refl _)) (fun b hb => free_above (by rw [List.mem_singleton.mp hb, Heap.size_push]; exact Nat.le_succ _)) (by simp) T (items.size - 0) 0 _ (by omega) (Nat.zero_le _)
          (St0 _ hol') up ((T (fun _ _ => False)).zero _ _ (Heap.get?_push_of_some _ atS) up) ?_
        intro s' m J' q'
        obtain ⟨h', g2, d', tk', os'⟩ := s'
        have eg : g2 = s.gens := m.gens
        have ed : d' = s.drawn := m.drawn
        have eo : os' = s.os := m.os
        subst eg; subst ed; subst eo
        show wpAny _ _ _ _ _ _
        refine wpAny_pure ?_; show wpAny _ _ (ret Value.none) _ _ _
        exact wpAny_pure ⟨rfl, h', tk', rfl, J', q'⟩
      · cases r₂ with
        | error e => exact hr₂
        | ok fl₂ =>
          cases fl₂ with
          | ret r =>
            obtain ⟨rfl, h', tk, rfl, J', q'⟩ := hr₂
            repeat (any_goals (first | assumption | wp_step))
            exact h _ _ J' q'
          | _ => exact hr₂.elim
    | _ => exact hr.elim
theorem set_of_list {l : Addr} {items : Array Value} {Q : Value → Shared → Prop} {J : Nat → Heap → Prop} (hh : A.handled = none) (hl : s.heap.IsList l items) (T : ∀ E, Fills P w (A.units + 3) E s.heap.objs.size items s.heap J)
    (h : ∀ (h' : Heap) (tk : Nat), J items.size h' → (∀ b o, s.heap.get? b = some o → h'.get? b = some o) → Q (.ref s.heap.objs.size) { s with heap := h', toks := tk }) :
    wpAny (model P w) A (call (.type "set") [.ref l]) Q E s := by
  obtain ⟨⟨oc, od, odata, os⟩, hol, hcl, nl, hdl⟩ := hl
  simp only at hcl hdl
  subst hcl; subst hdl
  exact set_of_seq hol PySem.F.sub_list_set PySem.F.sub_list_frozenset (by decide) (fun e q => wpAny_pyIter_list ⟨_, e, rfl, nl, rfl⟩ q) (fun I nI => Walks.list (by simp [hh]) I l nI items)
    (fun h e => ⟨⟨_, Heap.get?_push_size _ rfl, rfl, rfl⟩, ⟨_, Heap.get?_push_of_some _ e, rfl, nl, rfl⟩⟩) T h
theorem set_of_tuple {l : Addr} {items : Array Value} {Q : Value → Shared → Prop} {J : Nat → Heap → Prop} (hh : A.handled = none) (hl : s.heap.IsTuple l items) (T : ∀ E, Fills P w (A.units + 3) E s.heap.objs.size items s.heap J)
    (h : ∀ (h' : Heap) (tk : Nat), J items.size h' → (∀ b o, s.heap.get? b = some o → h'.get? b = some o) → Q (.ref s.heap.objs.size) { s with heap := h', toks := tk }) :
    wpAny (model P w) A (call (.type "set") [.ref l]) Q E s := by
  obtain ⟨⟨oc, od, odata, os⟩, hol, hcl, nl, hdl⟩ := hl
  simp only at hcl hdl
  subst hcl; subst hdl
  exact set_of_seq hol PySem.F.sub_tuple_set PySem.F.sub_tuple_frozenset (by decide) (fun e q => wpAny_pyIter_tuple ⟨_, e, rfl, nl, rfl⟩ q) (fun I nI => Walks.tuple (by simp [hh]) I l nI items)
    (fun h e => ⟨⟨_, Heap.get?_push_size _ rfl, rfl, rfl⟩, ⟨_, Heap.get?_push_of_some _ e, rfl, nl, rfl⟩⟩) T h
end
end CP
namespace CP
open PySem PySem.Spec PyProof.Rows L2
section
variable {P : Program} {w : World} {A : Around} {E : Value → Shared → Prop} {s : Shared}
/-- the tuple at b holds the texts k -/
abbrev TxtAt (P : Program) (w : World) (h : Heap) (k : List Str) (b : Addr) : Prop := IsTupleKey (strKind P w) h k b
theorem items_txt {k : List Str} {vs : List Value} (h : ItemsAre (strKind P w) k vs) : ∀ v ∈ vs, ∃ x u, v = Value.str x u := by
  induction h with
  | nil => intro v z; cases z
  | @cons k0 v0 ks vs h1 _ ih =>
    intro v z
    rcases List.mem_cons.mp z with rfl | z
    · obtain ⟨u, e⟩ := Value.isStrOf_shape h1
      exact ⟨k0, u, e⟩
    · exact ih v z
theorem cls_txt (n : Nat) (x : Str) (u : Tok) : ofAClassStatement n (.str x u) = pure false := by cases n <;> rfl
theorem hsh_txt (n : Nat) (x : Str) (u : Tok) : hashByValue n (.str x u) = pure false := by cases n <;> rfl
theorem cls_tup {k : List Str} {b : Addr} {Q : Bool → Shared → Prop} (hk : TxtAt P w s.heap k b) (h : Q false s) : wpAny (model P w) A (ofAClassStatement 8 (.ref b)) Q E s := by
  have ty := hk.typeIs
  obtain ⟨o, items, n, ho, _, hd, hi⟩ := hk
  unfold ofAClassStatement
  refine wpAny_bind (wpAny_typeOf ty ?_); dsimp only
  have e : (("tuple" : String) == "tuple") = true := by decide
  simp only [e, if_true, Bool.not_true, Bool.false_eq_true, if_false]
  try refine wpAny_bind (wpAny_pure ?_)
  try simp only [Bool.not_true, Bool.false_eq_true, if_false]
  show wpAny _ _ (seqItems? (.ref b) >>= _) _ _ s
  refine wpAny_bind (wpAny_seqItems ho hd ?_); dsimp only
  refine wpAny_bind ?_; show wpAny _ _ (forIn items _ _) _ _ s
  rw [← Array.forIn_toList]
  refine wpAny_forIn_list _ (fun rest r s' => r.1 = none ∧ s' = s ∧ ∀ v ∈ rest, ∃ x u, v = Value.str x u) _ ?_ ?_ _ _ ⟨rfl, rfl, items_txt hi⟩
  · rintro v rest r s' ⟨hr, rfl, each⟩
    obtain ⟨x, u, rfl⟩ := each v List.mem_cons_self
    rw [cls_txt]
    refine wpAny_bind (wpAny_pure ?_); simp only [Bool.false_eq_true, if_false]
    exact wpAny_pure ⟨rfl, rfl, fun y hy => each y (List.mem_cons_of_mem _ hy)⟩
  · rintro ⟨r1, r2⟩ s' ⟨hr, rfl, _⟩
    simp only at hr; subst hr
    exact wpAny_pure h
theorem hsh_tup {k : List Str} {b : Addr} {Q : Bool → Shared → Prop} (hk : TxtAt P w s.heap k b) (h : ∀ v, Q v s) : wpAny (model P w) A (hashByValue 8 (.ref b)) Q E s := by
  have ty := hk.typeIs
  obtain ⟨o, items, n, ho, _, hd, hi⟩ := hk
  unfold hashByValue
  refine wpAny_bind (wpAny_specialOf ty PySem.F.slot_tuple_hash.lookup ?_)
  show wpAny _ _ (seqItems? (.ref b) >>= _) _ _ s
  refine wpAny_bind (wpAny_seqItems ho hd (wpAny_bind ?_)); show wpAny _ _ (forIn items _ _) _ _ s
  rw [← Array.forIn_toList]
  refine wpAny_forIn_list _ (fun rest r s' => (r.1 = none ∨ r.1 = some false) ∧ s' = s ∧ ∀ v ∈ rest, ∃ x u, v = Value.str x u) _ ?_ ?_ _ _ ⟨.inl rfl, rfl, items_txt hi⟩
  · rintro v rest r s' ⟨hr, rfl, each⟩
    obtain ⟨x, u, rfl⟩ := each v List.mem_cons_self
    rw [hsh_txt]
    refine wpAny_bind (wpAny_pure ?_); simp only [Bool.not_false, if_true]
    exact wpAny_pure (wpAny_pure (h _))
  · rintro ⟨r1, r2⟩ s' ⟨hr, rfl, _⟩
    simp only at hr
    rcases hr with rfl | rfl
    · exact wpAny_pure (h _)
    · exact wpAny_pure (h _)
theorem seen_tup2 {k : List Str} {b : Addr} {Q : Bool → Shared → Prop} {ys : List Value} (hk : TxtAt P w s.heap k b) (hy : ∀ y ∈ ys, ∃ z c, y = Value.ref c ∧ TxtAt P w s.heap z c) (h : Q false s) : wpAny (model P w) A (searchCouldBeSeen (.ref b) ys) Q E s := by
  unfold searchCouldBeSeen
  refine wpAny_bind ?_
  refine wpAny_forIn_list _ (fun rest r s' => r.1 = none ∧ s' = s ∧ ∀ y ∈ rest, ∃ z c, y = Value.ref c ∧ TxtAt P w s.heap z c) _ ?_ ?_ _ _ ⟨rfl, rfl, hy⟩
  · rintro v rest r s' ⟨hr, rfl, each⟩
    obtain ⟨z, c, rfl, hc⟩ := each v List.mem_cons_self
    have each' : ∀ y ∈ rest, ∃ z c, y = Value.ref c ∧ TxtAt P w s'.heap z c := fun y z => each y (List.mem_cons_of_mem _ z)
    dsimp only
    by_cases hv : (b == c || (carriedByValue (.ref b) && carriedByValue (.ref c))) = true
    · exact wp_if_pos hv (wpAny_pure ⟨rfl, rfl, each'⟩)
    · refine wp_if_neg hv (wpAny_bind (wpAny_eqIsQuiet_tuple hk ?_)); simp only [Bool.not_true, Bool.false_eq_true, if_false]
      refine wpAny_bind (wpAny_eqIsQuiet_tuple hc ?_); simp only [Bool.not_true, Bool.false_eq_true, if_false]
      refine wpAny_bind (cls_tup hk ?_); simp only [Bool.false_eq_true, if_false]
      refine wpAny_bind (cls_tup hc ?_); simp only [Bool.false_eq_true, if_false]
      exact wpAny_pure ⟨rfl, rfl, each'⟩
  · rintro ⟨r1, r2⟩ s' ⟨hr, rfl, _⟩
    simp only at hr; subst hr
    exact wpAny_pure h
end
/-- tuples of texts as keys -/
def txtK (P : Program) (w : World) : KF P w (List Str) where
  At := fun h k b => TxtAt P w h k b
  hs := tupleKeyHash (strKind P w)
  eqb := fun hu hx hy h => wpAny_eqBool_tuple (by omega) hx hy h
  seen := fun hx hy h => seen_tup2 hx hy h
  hby := fun hx h => hsh_tup hx h
  pyh := fun hu hx h => wpAny_pyHash_tuple (by omega) hx (h _)
  other := fun hb ho hd hs => by
    obtain ⟨o2, items, n, ho2, hc, hd2, hi⟩ := hb
    refine ⟨o2, items, n, (hs.2 _ fun z => ?_).trans ho2, hc, hd2, hi⟩
    rw [z, ho] at ho2; cases ho2; rw [hd] at hd2; cases hd2
  kept := fun hb hk => by
    obtain ⟨o2, items, n, ho2, r⟩ := hb
    exact ⟨o2, items, n, hk _ _ ho2, r⟩

section
variable {P : Program} {w : World} {κ : Type} [DecidableEq κ] (F : KF P w κ)
/-- a set filled with the objects ks, item by item -/
theorem fills_keys {S : Addr} {items : Array Value} {h0 : Heap} {ks : List (Addr × κ)} {u : Nat} {E : Value → Shared → Prop} (hu : u + 8 < cLine) (hit : items.toList = ks.map fun p => Value.ref p.1) (few : ks.length < 250) (hk : ∀ p ∈ ks, F.At h0 p.2 p.1) :
    Fills P w u E S items h0 (fun i h => (∃ L es ep t, SK F h S L es ep t ∧ Has ks i L)) := by
  have sub : ∀ {i : Nat} {L : List (Addr × κ)} {p : Addr × κ}, Has ks i L → p ∈ L → p ∈ ks := fun g hp => List.mem_of_mem_take (g.sub _ hp)
  refine ⟨fun h b e _ => ⟨[], #[], 0, _, SK.new e, Has.none ks⟩, fun i h h' ⟨L, es, ep, t, R, g⟩ q1 q2 => ⟨L, es, ep, t, R.kept q1 fun p hp => F.kept (hk p (sub g hp)) q2, g⟩, ?_⟩
  intro A' i v s' hA hv ⟨L, es, ep, t, R, g⟩ q2 Q hQ
  obtain ⟨p, hp, rfl⟩ : ∃ p, ks[i]? = some p ∧ v = .ref p.1 := by
    have e : items.toList[i]? = some v := by rw [Array.getElem?_toList]; exact hv
    rw [hit, List.getElem?_map] at e
    cases hq : ks[i]? with
    | none => rw [hq] at e; cases e
    | some p => rw [hq] at e; exact ⟨p, rfl, (Option.some.inj e).symm⟩
  have hx : F.At s'.heap p.2 p.1 := F.kept (hk p (List.mem_of_getElem? hp)) q2
  unfold setAdd
  refine wpAny_holding (wpAny_bind (F.pyh (by omega) hx fun tn => ?_))
  have li : i < ks.length := (List.getElem?_eq_some_iff.mp hp).1
  refine put_in (s := { s' with toks := s'.toks + tn }) R hx (by omega) (by have := g.len; omega) fun b h' L' es' ep' t' sb R' c1 c2 => ?_
  exact hQ b h' tn sb ⟨L', es', ep', t', R', g.next hp c1 c2⟩
end
section
variable {P : Program} {w : World}
theorem txts_get {us : List Value} {xs : List Str} (r : Vals (xs.map V.str) us) (i : Nat) (v : Value) (e : us[i]? = some v) : ∃ x u, xs[i]? = some x ∧ v = .str x u := by
  have li : i < xs.length := by have := (List.getElem?_eq_some_iff.mp e).1; rw [← r.length, List.length_map] at this; exact this
  have hx : xs[i]? = some xs[i] := List.getElem?_eq_getElem li
  obtain ⟨u, e2, rv⟩ := r.get (i := i) (x := V.str xs[i]) (by rw [List.getElem?_map, hx]; rfl)
  rw [e] at e2; cases e2
  obtain ⟨t, rfl⟩ := rv
  exact ⟨_, t, hx, rfl⟩
/-- a set filled with texts -/
theorem fills_txts {S : Addr} {items : Array Value} {h0 : Heap} {xs : List Str} {u : Nat} {E : Value → Shared → Prop} (hi : Vals (xs.map V.str) items.toList) (few : xs.length + 1 < scanBound) :
    Fills P w u E S items h0 (fun i h => ∃ n, h.SetOf (strKind P w) S (fun k => decide (k ∈ xs.take i)) n ∧ n ≤ i ∧ (xs.Nodup → n = i) ∧ (n = i → (xs.take i).Nodup)) := by
  refine ⟨fun h b e _ => ⟨0, ?_, Nat.le_refl _, fun _ => rfl, fun _ => List.nodup_nil⟩, fun i h h' ⟨n, R, c⟩ q1 _ => ⟨n, ?_, c⟩, ?_⟩
  · exact SetOf_congr ((setObjOf_fresh (knd := strKind P w) b).setOf e (by unfold scanBound; omega)) (fun k => by simp) rfl
  · obtain ⟨o, es, ep, tb, ho, rest⟩ := R
    exact ⟨o, es, ep, tb, q1 o ho, rest⟩
  · intro A' i v s' _ hv ⟨n, R, c1, c2, c3⟩ _ Q hQ
    obtain ⟨x, u, hx, rfl⟩ := txts_get hi i v (by rw [Array.getElem?_toList]; exact hv)
    have li : i < xs.length := (List.getElem?_eq_some_iff.mp hx).1
    unfold setAdd
    refine wpAny_holding (wpAny_bind ((strKind P w).pyHash (k := x) (strKind_is _ _ _ _) ?_))
    refine wpAny_setAddHashed_of (knd := strKind P w) (s := { s' with toks := s'.toks + 1 }) (strKind_is _ _ _ _) rfl R (by omega) fun h' sb R' => ?_
    refine hQ _ h' 1 sb ⟨_, SetOf_congr R' (fun k => ?_) rfl, ?_, fun nd => ?_, fun z => ?_⟩
    · rw [take_one hx]; simp [Bool.decide_or]
    · split <;> omega
    · have : x ∉ xs.take i := fun z => by
        obtain ⟨j, hj⟩ := List.getElem?_of_mem z
        have hji : j < i := Nat.lt_of_lt_of_le (List.getElem?_eq_some_iff.mp hj).1 (List.length_take_le _ _)
        rw [List.getElem?_take_of_lt hji] at hj
        obtain ⟨b1, e1⟩ := List.getElem?_eq_some_iff.mp hj
        obtain ⟨b2, e2⟩ := List.getElem?_eq_some_iff.mp hx
        exact (List.pairwise_iff_getElem.mp nd) j i b1 b2 hji (e1.trans e2.symm)
      rw [decide_eq_false this]; simp [c2 nd]
    · by_cases c : x ∈ xs.take i
      · rw [decide_eq_true c, if_pos rfl] at z; omega
      · rw [decide_eq_false c, if_neg (by decide)] at z
        rw [take_one hx]
        refine List.nodup_append.mpr ⟨c3 (by omega), by simp, fun y hy y' hy' e => c ?_⟩
        simp at hy'
        rw [← hy', ← e]; exact hy
end
/-! ### len(set(xs)) -/
section
variable {X : Cx} {e : Expr} {te : TE} {p p2 q pos : Pos}
/-- xs a row of texts -/
def tLenSetX (K : PySem.W.Frag) (te : TE) : TE := fun σ H Q => te σ H fun x H1 => ∃ (l : Addr) (xs : List Str), x = V.ref l ∧ (SqL K H1 l (xs.map V.str) ∨ SqT K H1 l (xs.map V.str)) ∧ xs.length < 1000 ∧
  ∀ n : Nat, n ≤ xs.length → (n = xs.length ↔ xs.Nodup) → Q (.int (n : Int)) H1
theorem pe_lenSetX (hc : X.calm = true) (hg : Gl X "len") (hm : X.mg "len" = none) (hg2 : Gl X "set") (hm2 : X.mg "set" = none) (he : PE X e te)
    (na : starEach [e] X.env = (false, eval e X.env) :: starEach [] X.env := by rfl) : PE X (.Call (.Name "len" p) [.Call (.Name "set" p2) [e] [] q] [] pos) (tLenSetX X.K te) := by
  refine ⟨fun pins s σ H Q I h => Call_ (ld_blt I hg hm PySem.boot_len ?_)⟩
  refine PyProof.Rows.callWith_builtin1 (PyProof.Rows.args_cons ?_ rfl) rfl rfl
  refine Call_ (ld_blt I hg2 hm2 PyProof.Rows.boot_set ?_)
  refine PyProof.Rows.callWith_type1 (PyProof.Rows.args_cons (thn (he.run pins s σ H _ I h) fun v s1 ⟨x, H1, I1, r1, l, xs, ex, hq, few, k⟩ => PyProof.Rows.args_nil ?_) na) na rfl
  subst ex; cases r1
  rcases hq with hq | hq
  · obtain ⟨its, r, pl, _⟩ := I1.list hq
    refine set_of_list (I1.ok.hd hc) pl.isList (fun E => fills_txts (xs := xs) (by simpa using r) (by unfold scanBound; omega)) fun h' tk ⟨n, ⟨o, es, ep, t, ho, hex, hd, _, _, _, hf, hn⟩, c1, c2, c3⟩ keep => ?_
    have sz : its.toArray.size = xs.length := by rw [List.size_toArray, ← r.length, List.length_map]
    rw [sz] at c1 c2 c3; rw [List.take_length] at c3
    exact PyProof.Rows.args_nil (call_len_set ho hex hd hf (by rw [hn]; omega) ⟨.int n, H1, (I1.kept (t' := tk) keep).tok _, ⟨_, by rw [hn]⟩, k n c1 ⟨c3, c2⟩⟩)
  · obtain ⟨its, r, pl, _⟩ := I1.tuple hq
    refine set_of_tuple (I1.ok.hd hc) pl (fun E => fills_txts (xs := xs) (by simpa using r) (by unfold scanBound; omega)) fun h' tk ⟨n, ⟨o, es, ep, t, ho, hex, hd, _, _, _, hf, hn⟩, c1, c2, c3⟩ keep => ?_
    have sz : its.toArray.size = xs.length := by rw [List.size_toArray, ← r.length, List.length_map]
    rw [sz] at c1 c2 c3; rw [List.take_length] at c3
    exact PyProof.Rows.args_nil (call_len_set ho hex hd hf (by rw [hn]; omega) ⟨.int n, H1, (I1.kept (t' := tk) keep).tok _, ⟨_, by rw [hn]⟩, k n c1 ⟨c3, c2⟩⟩)
/-- xs a row of tuples of texts -/
def tLenSetP (K : PySem.W.Frag) (te : TE) : TE := fun σ H Q => te σ H fun x H1 => ∃ (l : Addr) (ks : List (Addr × List Str)), x = V.ref l ∧ (SqL K H1 l (ks.map fun p => V.ref p.1) ∨ SqT K H1 l (ks.map fun p => V.ref p.1)) ∧ (∀ p ∈ ks, SqT K H1 p.1 (p.2.map V.str)) ∧ ks.length < 250 ∧
  ∀ n : Nat, n ≤ ks.length → (n = ks.length ↔ (ks.map (·.2)).Nodup) → Q (.int (n : Int)) H1
theorem txt_items {P : Program} {w : World} : ∀ {k : List Str} {us : List Value}, Vals (k.map V.str) us → ItemsAre (strKind P w) k us
  | [], us, r => by cases r; exact .nil
  | x :: k, us, r => by
    cases r with
    | @cons _ u _ us h1 h2 =>
      obtain ⟨t, rfl⟩ := h1
      exact .cons (strKind_is _ _ _ _) (txt_items h2)
theorem txt_at {pins : List (Addr × Obj)} {σ : L2.St} {H : Hp} {s : Shared} {b : Addr} {k : List Str} (I : L2.Inv X pins σ H s) (h : SqT X.K H b (k.map V.str)) : TxtAt X.prog X.w s.heap k b := by
  obtain ⟨its, r, ⟨o, ho, hc, n, hd⟩, _⟩ := I.tuple h
  exact ⟨o, its.toArray, n, ho, hc, hd, by simpa using txt_items r⟩
theorem refs_only : ∀ {κ : Type} {ks : List (Addr × κ)} {us : List Value}, Vals (ks.map fun p => V.ref p.1) us → us = ks.map fun p => Value.ref p.1
  | _, [], us, r => by cases r; rfl
  | _, p :: ks, us, r => by
    cases r with
    | @cons _ u _ us h1 h2 =>
      obtain rfl : u = Value.ref p.1 := h1
      rw [refs_only h2]; rfl
theorem pe_lenSetP (hc : X.calm = true) (hg : Gl X "len") (hm : X.mg "len" = none) (hg2 : Gl X "set") (hm2 : X.mg "set" = none) (hu : X.A.units + 64 < cLine) (he : PE X e te)
    (na : starEach [e] X.env = (false, eval e X.env) :: starEach [] X.env := by rfl) : PE X (.Call (.Name "len" p) [.Call (.Name "set" p2) [e] [] q] [] pos) (tLenSetP X.K te) := by
  refine ⟨fun pins s σ H Q I h => Call_ (ld_blt I hg hm PySem.boot_len ?_)⟩
  refine PyProof.Rows.callWith_builtin1 (PyProof.Rows.args_cons ?_ rfl) rfl rfl
  refine Call_ (ld_blt I hg2 hm2 PyProof.Rows.boot_set ?_)
  refine PyProof.Rows.callWith_type1 (PyProof.Rows.args_cons (thn (he.run pins s σ H _ I h) fun v s1 ⟨x, H1, I1, r1, l, ks, ex, hq, hks, few, k⟩ => PyProof.Rows.args_nil ?_) na) na rfl
  subst ex; cases r1
  have ats : ∀ p ∈ ks, (txtK X.prog X.w).At s1.heap p.2 p.1 := fun p hp => txt_at I1 (hks p hp)
  rcases hq with hq | hq
  · obtain ⟨its, r, pl, _⟩ := I1.list hq
    have sz : its.toArray.size = ks.length := by rw [List.size_toArray, ← r.length, List.length_map]
    refine set_of_list (I1.ok.hd hc) pl.isList (fun E => fills_keys (txtK X.prog X.w) (ks := ks) (by omega) (by simpa using refs_only r) few ats) fun h' tk ⟨L, es, ep, t, R, g⟩ keep => ?_
    rw [sz] at g
    obtain ⟨o, ho, hex, hd⟩ := R.obj
    have cz := size_of_rows R.row
    have c3 := g.once; rw [List.take_length] at c3
    exact PyProof.Rows.args_nil (call_len_set ho hex hd (R.fit (s := { s1 with heap := h' })) (by have := R.few; omega) ⟨.int L.length, H1, (I1.kept (t' := tk) keep).tok _, ⟨_, by rw [cz]⟩, k L.length g.len ⟨c3, g.full⟩⟩)
  · obtain ⟨its, r, pl, _⟩ := I1.tuple hq
    have sz : its.toArray.size = ks.length := by rw [List.size_toArray, ← r.length, List.length_map]
    refine set_of_tuple (I1.ok.hd hc) pl (fun E => fills_keys (txtK X.prog X.w) (ks := ks) (by omega) (by simpa using refs_only r) few ats) fun h' tk ⟨L, es, ep, t, R, g⟩ keep => ?_
    rw [sz] at g
    obtain ⟨o, ho, hex, hd⟩ := R.obj
    have cz := size_of_rows R.row
    have c3 := g.once; rw [List.take_length] at c3
    exact PyProof.Rows.args_nil (call_len_set ho hex hd (R.fit (s := { s1 with heap := h' })) (by have := R.few; omega) ⟨.int L.length, H1, (I1.kept (t' := tk) keep).tok _, ⟨_, by rw [cz]⟩, k L.length g.len ⟨c3, g.full⟩⟩)
end
end CP
/-! Pairs of pairs of texts as keys: sets of them -/
namespace CP
open PySem PySem.Spec PyProof.Rows L2
abbrev PP := (Str × Str) × (Str × Str)
def nk (p : PP) : NestedKey := .tup [.tup [.text p.1.1, .text p.1.2], .tup [.text p.2.1, .text p.2.2]]
theorem nk_inj {p q : PP} (h : nk p = nk q) : p = q := by
  obtain ⟨⟨a, b⟩, ⟨c, d⟩⟩ := p
  obtain ⟨⟨a', b'⟩, ⟨c', d'⟩⟩ := q
  simp only [nk, NestedKey.tup.injEq, List.cons.injEq, NestedKey.text.injEq, and_true] at h
  obtain ⟨⟨rfl, rfl⟩, rfl, rfl⟩ := h
  rfl
theorem nk_depth (p : PP) : (nk p).depth = 2 := by simp [nk, NestedKey.depth, NestedKey.depthAll]
section
variable {P : Program} {w : World}
def ClsAt (P : Program) (w : World) (n : Nat) (s : Shared) (v : Value) : Prop := ∀ (A : Around) (E : Value → Shared → Prop) (Q : Bool → Shared → Prop), Q false s → wpAny (model P w) A (ofAClassStatement n v) Q E s
def HbyAt (P : Program) (w : World) (n : Nat) (s : Shared) (v : Value) : Prop := ∀ (A : Around) (E : Value → Shared → Prop) (Q : Bool → Shared → Prop), (∀ b, Q b s) → wpAny (model P w) A (hashByValue n v) Q E s
theorem ClsAt.txt {n : Nat} {s : Shared} (x : Str) (u : Tok) : ClsAt P w n s (.str x u) := fun A E Q h => by rw [cls_txt]; exact wpAny_pure h
theorem HbyAt.txt {n : Nat} {s : Shared} (x : Str) (u : Tok) : HbyAt P w n s (.str x u) := fun A E Q h => by rw [hsh_txt]; exact wpAny_pure (h false)
theorem ClsAt.tup {n : Nat} {s : Shared} {b : Addr} {o : Obj} {vs : Array Value} {m : Nat} (ho : s.heap.get? b = some o) (hc : o.cls = .type "tuple") (hd : o.data = .seq vs m) (each : ∀ v ∈ vs.toList, ClsAt P w n s v) : ClsAt P w (n + 1) s (.ref b) := fun A E Q h => by
  have ty : s.TypeIs (.ref b) "tuple" := ⟨o, ho, hc⟩
  unfold ofAClassStatement
  refine wpAny_bind (wpAny_typeOf ty ?_); dsimp only
  have e : (("tuple" : String) == "tuple") = true := by decide
  simp only [e, if_true, Bool.not_true, Bool.false_eq_true, if_false]
  try refine wpAny_bind (wpAny_pure ?_)
  try simp only [Bool.not_true, Bool.false_eq_true, if_false]
  refine wpAny_bind (m := seqItems? (.ref b)) (wpAny_seqItems ho hd ?_); dsimp only
  refine wpAny_bind ?_; show wpAny _ _ (forIn vs _ _) _ _ s
  rw [← Array.forIn_toList]
  refine wpAny_forIn_list _ (fun rest r s' => r.1 = none ∧ s' = s ∧ ∀ v ∈ rest, ClsAt P w n s v) _ ?_ ?_ _ _ ⟨rfl, rfl, each⟩
  · rintro v rest r s' ⟨hr, rfl, all⟩
    refine wpAny_bind (all v List.mem_cons_self _ _ _ ?_); simp only [Bool.false_eq_true, if_false]
    exact wpAny_pure ⟨rfl, rfl, fun y hy => all y (List.mem_cons_of_mem _ hy)⟩
  · rintro ⟨r1, r2⟩ s' ⟨hr, rfl, _⟩
    simp only at hr; subst hr
    exact wpAny_pure h
theorem HbyAt.tup {n : Nat} {s : Shared} {b : Addr} {o : Obj} {vs : Array Value} {m : Nat} (ho : s.heap.get? b = some o) (hc : o.cls = .type "tuple") (hd : o.data = .seq vs m) (each : ∀ v ∈ vs.toList, HbyAt P w n s v) : HbyAt P w (n + 1) s (.ref b) := fun A E Q h => by
  have ty : s.TypeIs (.ref b) "tuple" := ⟨o, ho, hc⟩
  unfold hashByValue
  refine wpAny_bind (wpAny_specialOf ty PySem.F.slot_tuple_hash.lookup ?_)
  refine wpAny_bind (m := seqItems? (.ref b)) (wpAny_seqItems ho hd (wpAny_bind ?_)); show wpAny _ _ (forIn vs _ _) _ _ s
  rw [← Array.forIn_toList]
  refine wpAny_forIn_list _ (fun rest r s' => (r.1 = none ∨ r.1 = some false) ∧ s' = s ∧ ∀ v ∈ rest, HbyAt P w n s v) _ ?_ ?_ _ _ ⟨.inl rfl, rfl, each⟩
  · rintro v rest r s' ⟨hr, rfl, all⟩
    refine wpAny_bind (all v List.mem_cons_self _ _ _ fun c => ?_)
    cases c
    · simp only [Bool.not_false, if_true]
      exact wpAny_pure (wpAny_pure (h _))
    · simp only [Bool.not_true, Bool.false_eq_true, if_false]
      exact wpAny_pure ⟨.inl rfl, rfl, fun y hy => all y (List.mem_cons_of_mem _ hy)⟩
  · rintro ⟨r1, r2⟩ s' ⟨hr, rfl, _⟩
    simp only at hr
    rcases hr with rfl | rfl
    · exact wpAny_pure (h _)
    · exact wpAny_pure (h _)
abbrev PpAt (h : Heap) (k : PP) (b : Addr) : Prop := NestedIs h (nk k) (.ref b)
/-- what stands behind such a key -/
theorem pp_open {h : Heap} {k : PP} {b : Addr} (x : PpAt h k b) {T : Nat → Value → Prop} (text : ∀ n y u, T n (.str y u)) (tup : ∀ n a o vs m, h.get? a = some o → o.cls = .type "tuple" → o.data = .seq vs m → (∀ v ∈ vs.toList, T n v) → T (n + 1) (.ref a)) (n : Nat) : T (n + 1 + 1) (.ref b) := by
  have inner : ∀ {u v : Str} {z : Value}, NestedIs h (.tup [.text u, .text v]) z → T (n + 1) z := fun {u v z} q => by
    cases q with
    | tup h1 h2 h3 h4 =>
      refine tup n _ _ _ _ h1 h2 h3 fun y hy => ?_
      generalize hl : Array.toList _ = l at h4 hy
      cases h4 with
      | cons a1 a2 =>
        cases a2 with
        | cons b1 b2 =>
          cases b2
          cases a1; cases b1
          simp only [List.mem_cons, List.not_mem_nil, or_false] at hy
          rcases hy with rfl | rfl <;> exact text _ _ _
  cases x with
  | tup h1 h2 h3 h4 =>
    refine tup (n + 1) _ _ _ _ h1 h2 h3 fun y hy => ?_
    generalize hl : Array.toList _ = l at h4 hy
    cases h4 with
    | cons a1 a2 =>
      cases a2 with
      | cons b1 b2 =>
        cases b2
        simp only [List.mem_cons, List.not_mem_nil, or_false] at hy
        rcases hy with rfl | rfl
        · exact inner a1
        · exact inner b1
theorem pp_cls {s : Shared} {k : PP} {b : Addr} (x : PpAt s.heap k b) : ClsAt P w 8 s (.ref b) := pp_open x (T := fun n v => ClsAt P w n s v) (fun _ _ _ => .txt _ _) (fun _ _ _ _ _ h1 h2 h3 h4 => .tup h1 h2 h3 h4) 6
theorem pp_hby {s : Shared} {k : PP} {b : Addr} (x : PpAt s.heap k b) : HbyAt P w 8 s (.ref b) := pp_open x (T := fun n v => HbyAt P w n s v) (fun _ _ _ => .txt _ _) (fun _ _ _ _ _ h1 h2 h3 h4 => .tup h1 h2 h3 h4) 6
theorem pp_seen {A : Around} {E : Value → Shared → Prop} {s : Shared} {k : PP} {b : Addr} {Q : Bool → Shared → Prop} {ys : List Value} (hk : PpAt s.heap k b) (hy : ∀ y ∈ ys, ∃ z c, y = Value.ref c ∧ PpAt s.heap z c) (h : Q false s) : wpAny (model P w) A (searchCouldBeSeen (.ref b) ys) Q E s := by
  unfold searchCouldBeSeen
  refine wpAny_bind ?_
  refine wpAny_forIn_list _ (fun rest r s' => r.1 = none ∧ s' = s ∧ ∀ y ∈ rest, ∃ z c, y = Value.ref c ∧ PpAt s.heap z c) _ ?_ ?_ _ _ ⟨rfl, rfl, hy⟩
  · rintro v rest r s' ⟨hr, rfl, each⟩
    obtain ⟨z, c, rfl, hc⟩ := each v List.mem_cons_self
    have more : ∀ y ∈ rest, ∃ z c, y = Value.ref c ∧ PpAt s'.heap z c := fun y z => each y (List.mem_cons_of_mem _ z)
    dsimp only
    by_cases hv : (b == c || (carriedByValue (.ref b) && carriedByValue (.ref c))) = true
    · exact wp_if_pos hv (wpAny_pure ⟨rfl, rfl, more⟩)
    · refine wp_if_neg hv (wpAny_bind (quiet_key _ _ 8 s' hk (by rw [nk_depth]; omega) _ _ _ ?_)); simp only [Bool.not_true, Bool.false_eq_true, if_false]
      refine wpAny_bind (quiet_key _ _ 8 s' hc (by rw [nk_depth]; omega) _ _ _ ?_); simp only [Bool.not_true, Bool.false_eq_true, if_false]
      refine wpAny_bind (pp_cls hk _ _ _ ?_); simp only [Bool.false_eq_true, if_false]
      refine wpAny_bind (pp_cls hc _ _ _ ?_); simp only [Bool.false_eq_true, if_false]
      exact wpAny_pure ⟨rfl, rfl, more⟩
  · rintro ⟨r1, r2⟩ s' ⟨hr, rfl, _⟩
    simp only at hr; subst hr
    exact wpAny_pure h
end
/-- pairs as keys -/
def ppK (P : Program) (w : World) : KF P w PP where
  At := fun h k b => PpAt h k b
  hs := fun k => (nk k).hash w
  eqb := fun {A E s x y a b Q} hu hx hy h => (nestedKind P w).eqBool hu ⟨hx, by rw [nk_depth]; omega⟩ ⟨hy, by rw [nk_depth]; omega⟩ (by
    have e : decide (nk x = nk y) = decide (x = y) := decide_eq_decide.mpr ⟨nk_inj, fun z => by rw [z]⟩
    rw [e]; exact h)
  seen := fun hx hy h => pp_seen hx hy h
  hby := fun hx h => pp_hby hx _ _ _ h
  pyh := fun {A E s x b Q} hu hx h => pyHash_key _ _ _ _ _ hx (by rw [nk_depth]; omega) (h _)
  other := fun hb ho hd hs => NestedIs.at (fun c oc vs n hc hv => by
    refine (hs.2 c fun z => ?_).trans hc
    rw [z, ho] at hc; cases hc; rw [hd] at hv; cases hv) _ _ hb
  kept := fun hb hk => NestedIs.at (fun c oc vs n hc _ => hk c oc hc) _ _ hb
/-! ### over the layer -/
/-- at b a tuple of two edges worth k -/
def PpH (H : Hp) (b : Addr) (k : PP) : Prop := ∃ e f, H b = some (.tup [.ref e, .ref f]) ∧ H e = some (.tup [.str k.1.1, .str k.1.2]) ∧ H f = some (.tup [.str k.2.1, .str k.2.2])
theorem PpH.same {H H' : Hp} {b : Addr} {k : PP} (h : PpH H b k) (s : Same H H') : PpH H' b k := let ⟨e, f, x, y, z⟩ := h; ⟨e, f, s _ _ x, s _ _ y, s _ _ z⟩
/-- what is no tuple may change -/
theorem PpH.upd {H : Hp} {a b : Addr} {k : PP} {o o' : HO} (h : PpH H b k) (ha : H a = some o) (n : ∀ xs, o ≠ .tup xs) : PpH (L2.upd H a o') b k := by
  obtain ⟨e, f, x, y, z⟩ := h
  have ne : ∀ {c : Addr} {xs : List V}, H c = some (.tup xs) → c ≠ a := fun hc q => by rw [q, ha] at hc; exact n _ (Option.some.inj hc)
  exact ⟨e, f, by rw [upd_ne (ne x)]; exact x, by rw [upd_ne (ne y)]; exact y, by rw [upd_ne (ne z)]; exact z⟩
section
variable {X : Cx} {pins : List (Addr × Obj)} {σ : L2.St} {H : Hp} {s : Shared}
theorem edge_is {e : Addr} {u v : Str} (I : L2.Inv X pins σ H s) (h : H e = some (.tup [.str u, .str v])) : NestedIs s.heap (.tup [.text u, .text v]) (.ref e) := by
  obtain ⟨its, r, ⟨o, ho, hc, n, hd⟩, _⟩ := I.tuple (SqT.of h)
  obtain ⟨v1, v2, rfl, ⟨t1, rfl⟩, ⟨t2, rfl⟩⟩ := vals2 r
  exact .tup ho hc hd (.cons (.text _ _) (.cons (.text _ _) .nil))
theorem pp_is {b : Addr} {k : PP} (I : L2.Inv X pins σ H s) (h : PpH H b k) : PpAt s.heap k b := by
  obtain ⟨e, f, hb, he, hf⟩ := h
  obtain ⟨its, r, ⟨o, ho, hc, n, hd⟩, _⟩ := I.tuple (SqT.of hb)
  obtain ⟨v1, v2, rfl, r1, r2⟩ := vals2 r
  cases (show v1 = Value.ref e from r1)
  cases (show v2 = Value.ref f from r2)
  exact .tup ho hc hd (.cons (edge_is I he) (.cons (edge_is I hf) .nil))
/-- the set at a, but for the keys' own tuples -/
def SetIn (P : Program) (w : World) (a : Addr) (L : List (Addr × PP)) (h : Heap) : Prop :=
  ∃ es ep t, (∃ o, h.get? a = some o ∧ o.ExactSet ∧ o.data = .set es ep t) ∧ es.toList = rowsK (ppK P w) L ∧ TabG t (hsK (ppK P w) L) ∧ (L.map (·.2)).Nodup ∧ L.length * 5 < t.mask * 3 ∧ L.length < 250
def SetN (P : Program) (w : World) (a : Addr) (L : List (Addr × PP)) : HO := .ext (SetIn P w a L)
theorem setN_ok {P : Program} {w : World} {H : Hp} {h : Heap} {a : Addr} {L : List (Addr × PP)} (R : SetIn P w a L h) : ObjOk P w H h a (SetN P w a L) := by
  have ⟨es, ep, t, ⟨o, ho, _⟩, _⟩ := R
  exact ⟨R, ⟨o, ho⟩, fun h1 h2 ⟨es', ep', t', ⟨o', ho', r'⟩, q'⟩ k => ⟨es', ep', t', ⟨o', k o' ho', r'⟩, q'⟩⟩
theorem SK.isIn {P : Program} {w : World} {h : Heap} {a : Addr} {L : List (Addr × PP)} {es : Array (Int × Value)} {ep : Nat} {t : SetTable} (R : SK (ppK P w) h a L es ep t) : SetIn P w a L h := ⟨es, ep, t, R.obj, R.row, R.tab, R.nod, R.roo, R.few⟩
theorem setN_get {a : Addr} {L : List (Addr × PP)} (I : L2.Inv X pins σ H s) (ha : H a = some (SetN X.prog X.w a L)) (hk : ∀ p ∈ L, PpH H p.1 p.2) : ∃ es ep t, SK (ppK X.prog X.w) s.heap a L es ep t := by
  obtain ⟨es, ep, t, h1, h2, h3, h4, h5, h6⟩ := (I.hok a _ ha).1
  exact ⟨es, ep, t, h1, h2, h3, h4, fun p hp => pp_is I (hk p hp), h5, h6⟩
/-- set() -/
def rSet0N (P : Program) (w : World) : List V → Hp → VK → Prop := fun xs H Q => xs = [] ∧ ∀ p, H p = none → Q (.ref p) (L2.upd H p (SetN P w p []))
theorem cr_set0N : CallR X (.type "set") (rSet0N X.prog X.w) := by
  intro pins s σ H xs us Q I r h
  obtain ⟨rfl, q⟩ := h
  cases r
  refine setR_new fun _ => ?_
  have new := SK.new (F := ppK X.prog X.w) (h := s.heap.push (newSet X.w)) (a := s.heap.objs.size) (b := !X.w.params.followText "set-order") (Heap.get?_push_size _ rfl)
  exact ⟨.ref _, L2.upd H s.heap.objs.size (SetN X.prog X.w s.heap.objs.size []), I.laid (t' := s.toks) (fun b u e => Heap.get?_push_of_some _ e) (Nat.le_refl _) (setN_ok new.isIn), rfl, q _ (I.hok.fresh (Nat.le_refl _))⟩
/-- seen.add(pair) -/
def rSAddN (P : Program) (w : World) : V → List V → Hp → VK → Prop := fun x xs H Q => ∃ (a b : Addr) (k : PP) (L : List (Addr × PP)), x = V.ref a ∧ xs = [.ref b] ∧ H a = some (SetN P w a L) ∧ (∀ p ∈ L, PpH H p.1 p.2) ∧ PpH H b k ∧ L.length + 1 < 250 ∧
  ∀ L', (k ∈ L.map (·.2) → L' = L) → (k ∉ L.map (·.2) → L'.Perm ((b, k) :: L)) → Q .non (L2.upd H a (SetN P w a L'))
theorem mt_saddN (hu : X.A.units + 64 < cLine) : MtR X "set.add" (rSAddN X.prog X.w) := by
  intro pins s σ H x xs v us Q I rx rxs h
  obtain ⟨a, b, k, L, rfl, rfl, ha, hk, hb, few, q⟩ := h
  cases rx
  rw [Vals.ref1 rxs]
  obtain ⟨es, ep, t, R⟩ := setN_get I ha hk
  obtain ⟨o, ho, hex, hd⟩ := R.obj
  have ty : s.TypeIs (.ref a) "set" := ⟨o, ho, hex.1⟩
  refine wpAny_call_entry PySem.F.slot_set_add ty PySem.F.entry_set_add ?_ (PySem.F.args_set_add_2 _ _)
  unfold Builtin.«set.add» Builtin.Frozenset.oneOther
  simp only [List.isEmpty_nil, bind_assoc]
  unfold Builtin.Frozenset.addrOf setAdd
  refine wpAny_bind (wpAny_pure ?_)
  try dsimp only
  refine wpAny_bind (wpAny_pure ?_)
  try dsimp only
  refine wpAny_bind (wpAny_holding (wpAny_bind ((ppK X.prog X.w).pyh (by simp; omega) (pp_is I hb) fun tn => ?_)))
  refine put_in (s := { s with toks := s.toks + tn }) R (show (ppK X.prog X.w).At s.heap k b from pp_is I hb) (by simp; omega) few fun c h' L' es' ep' t' sb R' c1 c2 => ?_
  show wpAny _ _ (ret Value.none) _ _ _
  obtain ⟨o', ho', _⟩ := R'.obj
  exact wpAny_pure ⟨_, rfl, .non, L2.upd H a (SetN X.prog X.w a L'), I.write (e := a) (t' := s.toks + tn) (by rw [ha]; trivial) (.inl rfl) (fun b u hb hu => (sb.2 b hb).trans hu) ⟨o', ho'⟩ (setN_ok R'.isIn), rfl, q L' c1 c2⟩
/-- pair in seen -/
def rSInN (P : Program) (w : World) : V → V → Hp → VK → Prop := fun x y H Q => ∃ (b a : Addr) (k : PP) (L : List (Addr × PP)), x = .ref b ∧ y = V.ref a ∧ H a = some (SetN P w a L) ∧ (∀ p ∈ L, PpH H p.1 p.2) ∧ PpH H b k ∧ Q (.bl (decide (k ∈ L.map (·.2)))) H
theorem or_sinN (hu : X.A.units + 64 < cLine) : OpR X (compareOp .In) (rSInN X.prog X.w) := by
  intro pins s σ H x y v u Q I rx ry h
  obtain ⟨b, a, k, L, rfl, rfl, ha, hk, hb, q⟩ := h
  cases rx
  cases ry
  obtain ⟨es, ep, t, R⟩ := setN_get I ha hk
  obtain ⟨o, ho, hex, hd⟩ := R.obj
  have ty : s.TypeIs (.ref a) "set" := ⟨o, ho, hex.1⟩
  show wpAny _ _ (do return Value.bool (← contains (.ref a) (.ref b))) _ _ s
  refine wpAny_bind ?_
  unfold contains
  try with_reducible refine wpAny_holding ?_
  refine wpAny_bind (wpAny_specialOf ty PySem.F.slot_set_contains.lookup ?_)
  rw [if_neg (by rw [beq_builtin_none]; exact Bool.false_ne_true)]
  refine wpAny_bind (wpAny_callSpecialUnlessNone?_slot (name := Str.ofString "__contains__") ty PySem.F.slot_set_contains (wpAny_call_entry PySem.F.slot_set_contains ty PySem.entry_set_contains ?_ (PySem.F.args_set_contains_2 _ _)))
  unfold Builtin.«frozenset.__contains__» Builtin.Frozenset.oneOther
  simp only [List.isEmpty_nil, bind_assoc]
  unfold Builtin.Frozenset.addrOf Builtin.Frozenset.withSetAsKey setContains
  refine wpAny_bind (wpAny_pure ?_)
  try dsimp only
  refine wpAny_bind (wpAny_pure ?_)
  try dsimp only
  refine wpAny_bind (wpAny_tryCatch (wpAny_holding (wpAny_bind ((ppK X.prog X.w).pyh (by simp; omega) (pp_is I hb) fun tn => ?_))))
  refine wpAny_bind (find_in (s := { s with toks := s.toks + tn }) R (show (ppK X.prog X.w).At s.heap k b from pp_is I hb) (by simp; omega) fun r hr => wpAny_pure ?_)
  show wpAny _ _ (ret (Value.bool r.isSome)) _ _ _
  have hr2 : r.isSome = decide (k ∈ L.map (·.2)) := hr.trans (decide_eq_decide.mpr Iff.rfl)
  rw [hr2]
  exact wpAny_pure ⟨_, rfl, wpAny_truthy_bool (wpAny_pure ⟨.bl _, H, I.tok _, rfl, q⟩)⟩
end
end CP
namespace CP
open PySem PySem.Spec PyProof.Rows L2
section
variable {X : Cx} {o e : Expr} {es : List Expr} {to : TE} {t : TA} {apos cpos : Pos}
def tSAddN (P : Program) (w : World) (to : TE) (t : TA) : TE := fun σ H Q => to σ H fun x H1 => (∃ a L, x = V.ref a ∧ H1 a = some (SetN P w a L)) ∧ t σ H1 fun xs H2 => rSAddN P w x xs H2 Q
/-- seen.add(pair), as it is written -/
theorem pe_saddNN (hu : X.A.units + 64 < cLine) (ho : PE X o to) (ha : PA X (e :: es) t) (hbase : attributeBase o "add" X.env (eval o X.env) = eval o X.env := by rfl)
    (hfew : ((backTo cpos (starEach (e :: es) X.env)).all (fun x => !x.1) && (backToKw cpos (keywordEach [] X.env)).all (fun x => x.1.isSome) && decide ((e :: es).length + ([] : List Keyword).length + (if ([] : List Keyword).isEmpty then 0 else 1) < 30)) = true := by rfl)
    (hline : (apos.endLine == cpos.line) = true := by rfl) (hs : starEach (e :: es) X.env = (false, eval e X.env) :: starEach es X.env := by rfl) (hplain : (backTo cpos (starEach es X.env)).any (·.1) = false := by rfl) :
    PE X (.Call (.Attribute o "add" apos) (e :: es) [] cpos) (tSAddN X.prog X.w to t) := by
  refine ⟨fun pins s σ H Q I h => wpAny_Call_method_late hbase hfew hline rfl (thn (ho.run pins s σ H _ I h) fun v s1 ⟨x, H1, I1, r1, ⟨a, L, ex, hS⟩, q1⟩ => ?_)⟩
  subst ex
  cases r1
  obtain ⟨es', ep, tb, ⟨ob, h1, h2, h3⟩, _⟩ := (I1.hok a _ hS).1
  have nd : ∀ b, Value.ref a = .ref b → ∃ o', s1.heap.get? b = some o' ∧ o'.dict = none := fun b z => by cases z; exact ⟨ob, h1, h2.2.1⟩
  refine ⟨"set", "set.add", F.plainAttrs_set, F.slot_set_add, F.type_set_add, ⟨ob, h1, h2.1⟩, nd, ?_⟩
  have hA := ha.run cpos pins s1 σ H1 _ I1 q1
  rw [hs] at hA ⊢
  refine Calls.callWith_builtin (by show (false || (backTo cpos (starEach es X.env)).any (·.1)) = false; rw [hplain]; rfl) (Calls.evalArgs_plain (thn hA fun us s2 ⟨vs, H2, I2, r2, q2⟩ => ?_))
  exact mt_saddN hu pins s2 σ H2 (.ref a) vs (.ref a) us Q I2 rfl r2 q2
end
end CP
/-! Dicts whose keys are pairs of pairs of texts -/
namespace CP
open PySem PySem.Spec PyProof.Rows L2
/-! ### the content: keys, the places of the keys' tuples, values -/
abbrev Cn := List (PP × Addr × V)
def valN (xs : Cn) (k : PP) : Option V := (xs.find? fun x => decide (x.1 = k)).map (·.2.2)
def putN (xs : Cn) (k : PP) (b : Addr) (v : V) : Cn := if (valN xs k).isSome = true then xs.map (fun x => if x.1 = k then (x.1, x.2.1, v) else x) else xs ++ [(k, b, v)]
def LikeN (x : PP × Addr × V) (u : NestedKey × Addr × Value) : Prop := u.1 = nk x.1 ∧ u.2.1 = x.2.1 ∧ RelV x.2.2 u.2.2
theorem valN_cons (x : PP × Addr × V) (xs : Cn) (k : PP) : valN (x :: xs) k = if x.1 = k then some x.2.2 else valN xs k := by
  unfold valN
  by_cases c : x.1 = k <;> simp [List.find?_cons, c]
theorem atKey_cons (u : NestedKey × Addr × Value) (us : List (NestedKey × Addr × Value)) (k : NestedKey) : atKey (u :: us) k = if u.1 = k then some u.2 else atKey us k := by
  unfold atKey
  by_cases c : u.1 = k <;> simp [List.find?_cons, c]
theorem like_at {k : PP} : ∀ {xs : Cn} {us : List (NestedKey × Addr × Value)}, Paired LikeN xs us → (valN xs k = none ∧ atKey us (nk k) = none) ∨ ∃ v p, valN xs k = some v ∧ atKey us (nk k) = some p ∧ RelV v p.2
  | _, _, .nil => .inl ⟨rfl, rfl⟩
  | _, _, .cons (a := x) (b := u) h t => by
    rw [valN_cons, atKey_cons]
    by_cases c : x.1 = k
    · rw [if_pos c, if_pos (by rw [h.1, c])]
      exact .inr ⟨_, _, rfl, rfl, h.2.2⟩
    · rw [if_neg c, if_neg (fun z => c (nk_inj (h.1.symm.trans z)))]
      exact like_at t
theorem like_map {k : PP} {v : V} {u : Value} (rv : RelV v u) : ∀ {xs : Cn} {us : List (NestedKey × Addr × Value)}, Paired LikeN xs us → Paired LikeN (xs.map fun x => if x.1 = k then (x.1, x.2.1, v) else x) (us.map (putAt (nk k) u))
  | _, _, .nil => .nil
  | _, _, .cons (a := x) (b := y) h t => by
    refine .cons ?_ (like_map rv t)
    show LikeN (if x.1 = k then (x.1, x.2.1, v) else x) (if y.1 = nk k then (y.1, y.2.1, u) else y)
    by_cases c : x.1 = k
    · rw [if_pos c, if_pos (by rw [h.1, c])]; exact ⟨h.1, h.2.1, rv⟩
    · rw [if_neg c, if_neg (fun z => c (nk_inj (h.1.symm.trans z)))]; exact h
theorem like_put {k : PP} {b : Addr} {v : V} {u : Value} (rv : RelV v u) {xs : Cn} {us : List (NestedKey × Addr × Value)} (h : Paired LikeN xs us) : Paired LikeN (putN xs k b v) (storedH us (nk k) b u) := by
  unfold putN
  rcases like_at (k := k) h with ⟨e1, e2⟩ | ⟨v0, p, e1, e2, _⟩
  · rw [e1, storedH_new e2, if_neg (by decide)]
    exact h.snoc ⟨rfl, rfl, rv⟩
  · rw [e1, storedH_old e2, if_pos (by rfl)]
    exact like_map rv h
theorem valN_map (k j : PP) (v : V) : ∀ xs : Cn, valN (xs.map fun x => if x.1 = k then (x.1, x.2.1, v) else x) j = if j = k then (valN xs k).map (fun _ => v) else valN xs j
  | [] => by by_cases c : j = k <;> simp [valN, c]
  | x :: xs => by
    rw [List.map_cons, valN_cons, valN_map k j v xs, valN_cons, valN_cons]
    by_cases c : x.1 = k
    · by_cases d : j = k
      · subst d; simp [c]
      · have : ¬ k = j := fun z => d z.symm
        simp [c, d, this]
    · by_cases d : j = k
      · subst d; simp [c]
      · simp [c, d]
theorem valN_snoc (k j : PP) (b : Addr) (v : V) : ∀ xs : Cn, valN xs k = none → valN (xs ++ [(k, b, v)]) j = if j = k then some v else valN xs j
  | [], _ => by
    show valN [(k, b, v)] j = _
    rw [valN_cons]
    by_cases c : j = k
    · subst c; simp
    · have : ¬ k = j := fun z => c z.symm
      simp [this, c]
  | x :: xs, h => by
    rw [valN_cons] at h
    by_cases c : x.1 = k
    · rw [if_pos c] at h; cases h
    · rw [if_neg c] at h
      rw [List.cons_append, valN_cons, valN_snoc k j b v xs h, valN_cons]
      by_cases d : j = k
      · subst d; simp [c]
      · simp [d]
theorem valN_put (xs : Cn) (k j : PP) (b : Addr) (v : V) : valN (putN xs k b v) j = if j = k then some v else valN xs j := by
  unfold putN
  cases e : valN xs k with
  | none => rw [if_neg (by decide)]; exact valN_snoc k j b v xs e
  | some v0 => rw [if_pos (by rfl), valN_map, e]; rfl
theorem putN_len (xs : Cn) (k : PP) (b : Addr) (v : V) : (putN xs k b v).length ≤ xs.length + 1 := by
  unfold putN; split
  · rw [List.length_map]; omega
  · rw [List.length_append]; simp
theorem putN_old {xs : Cn} {k : PP} (h : (valN xs k).isSome = true) (b : Addr) (v : V) : (putN xs k b v).length = xs.length := by
  unfold putN; rw [if_pos h, List.length_map]
theorem putN_mem {xs : Cn} {k : PP} {b : Addr} {v : V} {x : PP × Addr × V} (h : x ∈ putN xs k b v) : (x.1 = k ∧ x.2.1 = b) ∨ ∃ y ∈ xs, x.1 = y.1 ∧ x.2.1 = y.2.1 := by
  unfold putN at h; split at h
  · obtain ⟨y, hy, rfl⟩ := List.mem_map.mp h
    refine .inr ⟨y, hy, ?_⟩
    split <;> exact ⟨rfl, rfl⟩
  · rcases List.mem_append.mp h with h | h
    · exact .inr ⟨x, h, rfl, rfl⟩
    · rw [List.mem_singleton.mp h]; exact .inl ⟨rfl, rfl⟩
/-- the dict at a, but for the keys' own tuples -/
def DctIn (P : Program) (w : World) (a : Addr) (xs : Cn) (h : Heap) : Prop :=
  ∃ o es ep us, h.get? a = some o ∧ o.ExactDict ∧ o.data = .dict es ep ∧ es.toList = us.map (entryOfKey (nestedKind P w)) ∧ (us.map (·.1)).Nodup ∧ Paired LikeN xs us
def DctN (P : Program) (w : World) (a : Addr) (xs : Cn) : HO := .ext (DctIn P w a xs)
theorem dctN_ok {P : Program} {w : World} {H : Hp} {h : Heap} {a : Addr} {xs : Cn} (R : DctIn P w a xs h) : ObjOk P w H h a (DctN P w a xs) := by
  have ⟨o, es, ep, us, ho, _⟩ := R
  exact ⟨R, ⟨o, ho⟩, fun h1 h2 ⟨o', es', ep', us', ho', r⟩ k => ⟨o', es', ep', us', k o' ho', r⟩⟩
theorem dctN_new (P : Program) (w : World) (h : Heap) : DctIn P w h.objs.size [] (h.push { cls := .type "dict", data := .dict #[] }) :=
  ⟨_, #[], 0, [], Heap.get?_push_size _ rfl, ⟨rfl, rfl, rfl⟩, rfl, rfl, List.nodup_nil, .nil⟩
/-- at d a dict that answers g, of at most n keys -/
def DN (P : Program) (w : World) (H : Hp) (d : Addr) (g : PP → Option V) (n : Nat) : Prop := ∃ xs, H d = some (DctN P w d xs) ∧ (∀ x ∈ xs, PpH H x.2.1 x.1) ∧ (∀ k, valN xs k = g k) ∧ xs.length ≤ n
theorem DN.same {P : Program} {w : World} {H H' : Hp} {d : Addr} {g : PP → Option V} {n : Nat} (h : DN P w H d g n) (s : Same H H') : DN P w H' d g n := by
  obtain ⟨xs, a, b, c, e⟩ := h
  exact ⟨xs, s _ _ a, fun x hx => (b x hx).same s, c, e⟩
theorem DN.new {P : Program} {w : World} {H : Hp} {d : Addr} : DN P w (L2.upd H d (DctN P w d [])) d (fun _ => none) 0 := ⟨[], upd_same, (fun _ z => nomatch z), fun _ => rfl, Nat.le_refl _⟩
theorem no_tup {f : Heap → Prop} : ∀ xs : List V, (HO.ext f) ≠ .tup xs := fun xs z => by cases z
theorem PpH.new {H : Hp} {d b : Addr} {k : PP} {o : HO} (h : PpH H b k) (hd : H d = none) : PpH (L2.upd H d o) b k := h.same fun c u e => by rw [upd_ne (ne_of_none e hd)]; exact e
section
variable {X : Cx} {pins : List (Addr × Obj)} {σ : L2.St} {H : Hp} {s : Shared}
theorem dctN_get {d : Addr} {xs : Cn} (I : L2.Inv X pins σ H s) (hd : H d = some (DctN X.prog X.w d xs)) (hk : ∀ x ∈ xs, PpH H x.2.1 x.1) : ∃ us, s.heap.DictOfH (nestedKind X.prog X.w) d us ∧ Paired LikeN xs us ∧ us.length = xs.length := by
  obtain ⟨o, es, ep, us, h1, h2, h3, h4, h5, h6⟩ := (I.hok d _ hd).1
  have all : ∀ {xs : Cn} {us : List (NestedKey × Addr × Value)}, Paired LikeN xs us → (∀ x ∈ xs, PpH H x.2.1 x.1) → ∀ u ∈ us, (nestedKind X.prog X.w).is s.heap u.1 u.2.1 := by
    intro xs us p
    induction p with
    | nil => intro _ u hu; cases hu
    | @cons x u xs us l _ ih =>
      intro h y hy
      rcases List.mem_cons.mp hy with rfl | hy
      · have q := pp_is I (h x List.mem_cons_self)
        rw [l.1, l.2.1]
        exact ⟨q, by rw [nk_depth]; omega⟩
      · exact ih (fun z hz => h z (List.mem_cons_of_mem _ hz)) y hy
  exact ⟨us, ⟨o, es, ep, h1, h2, h3, h4, all h6 hk, h5⟩, h6, (Paired.length h6).symm⟩
/-- d[k] -/
def rGetN (P : Program) (w : World) : R2 := fun x y H Q => ∃ (d b : Addr) (k : PP) (g : PP → Option V) (n : Nat) (v : V), x = .ref d ∧ y = .ref b ∧ DN P w H d g n ∧ PpH H b k ∧ g k = some v ∧ Q v H
def tGetN (P : Program) (w : World) (td ty : TE) : TE := fun σ H Q => td σ H fun x H1 => ty σ H1 fun y H2 => rGetN P w x y H2 Q
theorem pe_getN {o i : Expr} {td ty : TE} {pos : Pos} (hu : X.A.units + 64 < cLine) (ho : PE X o td) (hi : PE X i ty) (hs : NoSl i) : PE X (.Subscript o i pos) (tGetN X.prog X.w td ty) := by
  refine ⟨fun pins s σ H Q I h => ?_⟩
  refine subD_of PySem.F.slot_dict_getitem.lookup hs (thn (ho.run pins s σ H _ I h) fun u s1 ⟨x, H1, I1, rx, q1⟩ => thn (hi.run pins s1 σ H1 _ I1 q1) fun iv s2 ⟨y, H2, I2, ry, d, b, k, g, n, v, ex, ey, ⟨xs, h1, h2, h3, h4⟩, hb, hg, q⟩ => ?_)
  subst ex ey
  cases rx
  cases ry
  obtain ⟨us, D, l, _⟩ := dctN_get I2 h1 h2
  refine ⟨D.typeIs, ?_⟩
  rcases like_at (k := k) l with ⟨e1, _⟩ | ⟨v0, p, e1, e2, rv⟩
  · rw [h3 k, hg] at e1; cases e1
  · rw [h3 k, hg] at e1
    obtain rfl : v = v0 := Option.some.inj e1
    refine wpAny_getItem_heap (knd := nestedKind X.prog X.w) (by show _ + 8 < cLine; simp; omega) ⟨pp_is I2 hb, by rw [nk_depth]; omega⟩ D e2 ?_
    exact ⟨v, H2, I2.tok _, rv, q⟩
/-- d[k] = v -/
def rPutN (P : Program) (w : World) : TSet := fun o i v H Q => ∃ (d b : Addr) (k : PP) (g : PP → Option V) (n : Nat), o = .ref d ∧ i = .ref b ∧ DN P w H d g n ∧ PpH H b k ∧ n ≤ 1000 ∧
  ∀ u, DN P w (L2.upd H d u) d (fun j => if j = k then some v else g j) (if (g k).isSome = true then n else n + 1) → (∀ c x, PpH H c x → PpH (L2.upd H d u) c x) → Q (L2.upd H d u)
theorem DN.put {P : Program} {w : World} {d b : Addr} {k : PP} {g : PP → Option V} {n : Nat} {v : V} {xs : Cn} (h1 : H d = some (DctN P w d xs)) (h2 : ∀ x ∈ xs, PpH H x.2.1 x.1) (h3 : ∀ k, valN xs k = g k) (h4 : xs.length ≤ n) (hb : PpH H b k) :
    DN P w (L2.upd H d (DctN P w d (putN xs k b v))) d (fun j => if j = k then some v else g j) (if (g k).isSome = true then n else n + 1) := by
  refine ⟨_, upd_same, fun x hx => ?_, fun j => by rw [valN_put, h3], ?_⟩
  · rcases putN_mem hx with ⟨e1, e2⟩ | ⟨y, hy, e1, e2⟩
    · rw [e1, e2]; exact hb.upd h1 no_tup
    · rw [e1, e2]; exact (h2 y hy).upd h1 no_tup
  · by_cases c : (g k).isSome = true
    · rw [if_pos c, putN_old (by rw [h3]; exact c)]; exact h4
    · rw [if_neg c]; exact Nat.le_trans (putN_len _ _ _ _) (by omega)
theorem set_dictN (hu : X.A.units + 64 < cLine) : PSet X (rPutN X.prog X.w) := by
  intro pins s σ H o i v ov iv u Q I ro ri rv h
  obtain ⟨d, b, k, g, n, rfl, rfl, ⟨xs, h1, h2, h3, h4⟩, hb, few, q⟩ := h
  cases ro
  cases ri
  obtain ⟨us, D, l, le⟩ := dctN_get I h1 h2
  refine wpAny_setItem_heap (knd := nestedKind X.prog X.w) (hsz := by rw [le, sizeLine_eq]; omega) (by show _ + 8 < cLine; simp; omega) ⟨pp_is I hb, by rw [nk_depth]; omega⟩ D fun h' D' sb => ?_
  obtain ⟨o', es', ep', g1, g2, g3, g4, _, g6⟩ := D'
  have R : DctIn X.prog X.w d (putN xs k b v) h' := ⟨o', es', ep', _, g1, g2, g3, g4, g6, like_put rv l⟩
  exact ⟨_, I.write (e := d) (t' := s.toks + (nestedKind X.prog X.w).draws (nk k)) (by rw [h1]; trivial) (.inl rfl) (fun c u hc hu => (sb.2 c hc).trans hu) ⟨o', g1⟩ (dctN_ok R), q _ (DN.put h1 h2 h3 h4 hb) fun c x p => p.upd h1 no_tup⟩
end
end CP
/-! Dict comprehensions whose keys are pairs of pairs of texts -/
namespace CP
open PySem PySem.Spec PyProof.Rows L2
/-- D[k] = v by the comprehension -/
def sPutN (P : Program) (w : World) (D : Addr) (y z : V) (H : Hp) (Nx : Hp → Prop) : Prop := ∃ (b : Addr) (k : PP) (g : PP → Option V) (n : Nat), y = .ref b ∧ DN P w H D g n ∧ PpH H b k ∧ n ≤ 1000 ∧
  ∀ u, DN P w (L2.upd H D u) D (fun j => if j = k then some z else g j) (if (g k).isSome = true then n else n + 1) → (∀ c x, PpH H c x → PpH (L2.upd H D u) c x) → Nx (L2.upd H D u)
def tDcN (P : Program) (w : World) (wi : TI) (g : TG) (tt : TT) (tk tv : TE) (vs : List Nat) : TE := fun σ H Q => wi σ H fun J H1 => ∀ D, H1 D = none → ∃ W : Nat → Nat → Hp → Prop, (∃ m, W 0 m (L2.upd H1 D (DctN P w D []))) ∧ ∀ i m H, W i m H →
  (J.stop i H ∧ Q (.ref D) H) ∨ (J.go i H ∧ ∃ Nx : Hp → Prop, (∀ H', Nx H' → ∃ m', m' < m ∧ W (i + 1) m' H') ∧ ∀ x H', J.yld i H x H' → g x (wipe σ vs) H' fun σ2 H2 => wipe σ2 vs = wipe σ vs ∧ tt σ2 H2 fun b H3 =>
    if b = true then tk σ2 H3 fun y H4 => tv σ2 H4 fun z H5 => sPutN P w D y z H5 Nx else Nx H3)
section
variable {X : Cx}
theorem dictSet_N {pins : List (Addr × Obj)} {σ : L2.St} {H : Hp} {s : Shared} {E : Value → Shared → Prop} {D : Addr} {y z : V} {uy uz : Value} {Nx : Hp → Prop} {Q : Unit → Shared → Prop} (room : X.A.units + 64 < cLine) (V0 : L2.Inv X pins σ H s) (ry : RelV y uy) (rz : RelV z uz) (h : sPutN X.prog X.w D y z H Nx)
    (fin : ∀ s' H', L2.Inv X pins σ H' s' → Nx H' → Q () s') : wpAny (model X.prog X.w) X.A (dictSet D uy uz) Q E s := by
  obtain ⟨b, k, g, n, rfl, ⟨xs, h1, h2, h3, h4⟩, hb, few, q⟩ := h
  cases ry
  obtain ⟨us, M, l, le⟩ := dctN_get V0 h1 h2
  refine wpAny_dictSet_heap (knd := nestedKind X.prog X.w) (hsz := by rw [le, sizeLine_eq]; omega) (by show _ + 8 < cLine; omega) ⟨pp_is V0 hb, by rw [nk_depth]; omega⟩ M fun h' M' sb => ?_
  obtain ⟨o', es', ep', g1, g2, g3, g4, _, g6⟩ := M'
  have R : DctIn X.prog X.w D (putN xs k b z) h' := ⟨o', es', ep', _, g1, g2, g3, g4, g6, like_put rz l⟩
  refine fin _ _ (V0.write (e := D) (t' := s.toks + (nestedKind X.prog X.w).draws (nk k)) (by rw [h1]; trivial) (.inl rfl) (fun c u hc hu => (sb.2 c hc).trans hu) ⟨o', g1⟩ (dctN_ok R)) ?_
  exact q _ (DN.put h1 h2 h3 h4 hb) fun c x p => p.upd h1 no_tup
theorem pe_dcN {kx vx tg iter : Expr} {ifs : List Expr} {scope : Scope} {own : List (Str × Nat)} {pos : Pos} {wi : TI} {g : TG} {tt : TT} {tk tv : TE} (calm : X.calm = true) (once : X.N.Nodup) (room : X.A.units + 64 < cLine) (ri : PI X tg iter wi) (blk : BlkOk X.N X.env.scope scope own)
    (rg : ∀ s H C cl fp, PG (X.blk s H scope (compEnvC scope cl C X.env) fp) tg g) (rt : ∀ s H C cl fp, PTs (X.blk s H scope (compEnvC scope cl C X.env) fp) ifs tt)
    (rk : ∀ s H C cl fp, PE (X.blk s H scope (compEnvC scope cl C X.env) fp) kx tk) (rv : ∀ s H C cl fp, PE (X.blk s H scope (compEnvC scope cl C X.env) fp) vx tv) (plain : ∀ x, foldedSetIterable iter X.env x = pure x := by intro _; rfl) :
    PE X (.DictComp kx vx [⟨tg, iter, ifs, 0⟩] scope pos) (tDcN X.prog X.w wi g tt tk tv (own.map (·.2))) := by
  refine ⟨fun pins s σ H Q V0 want => ?_⟩
  rw [arm_eval_DictComp]
  have cells : ∀ y ∈ scope.names, y.2 = .free → ∃ c, X.env.cells.lookup y.1 = some c := fun y hy e => (blk.free y hy e).elim (fun q => V0.ok.has _ (.inl q)) fun q => V0.ok.has _ (.inr q)
  refine wpAny_comprehension_free rfl plain (closure_ok cells) blk.kind (fun y hy e => by rw [blk.uniq y hy, e]) (thn (ri.run pins s σ H _ V0 want) fun xv s1 hx => thn hx fun itv s2 ⟨it, fp, tn, J, H2, e, V2, T, w2, p2, q⟩ => ?_)
  subst e
  refine wpAny_newObj_type (newEnv_comp ?_)
  have big := V2.big
  -- the new dict at D, and the block's own names behind it
  generalize eD : s2.heap.objs.size = D
  have nD : H2 D = none := V2.hok.fresh (Nat.le_of_eq eD)
  obtain ⟨W, ⟨m0, w0⟩, turn⟩ := q D nD
  generalize e3 : ({ s2 with heap := s2.heap.push { cls := .type "dict", data := .dict #[] } } : Shared) = s3
  have hp3 : s3.heap = s2.heap.push { cls := .type "dict", data := .dict #[] } := by rw [← e3]
  have V3 : L2.Inv X pins σ (L2.upd H2 D (DctN X.prog X.w D [])) s3 := by
    subst e3
    refine V2.laid (t' := s2.toks) (fun b o e => Heap.get?_push_of_some _ e) (Nat.le_of_eq eD) ?_
    subst eD
    exact dctN_ok (dctN_new X.prog X.w s2.heap)
  have old : ∀ b ∈ fp, b < s2.heap.objs.size := fun b hb => let ⟨_, e, _⟩ := T.obj _ _ w2 b hb; Heap.lt_size e
  have p3 : ∀ b ∈ fp, FpOk X pins (L2.upd H2 D (DctN X.prog X.w D [])) b ∧ b < s3.heap.objs.size := fun b hb => by
    have lt := old b hb
    refine ⟨⟨by rw [upd_ne (by rw [← eD]; exact Nat.ne_of_lt lt)]; exact (p2 b hb).1, (p2 b hb).2⟩, ?_⟩
    rw [hp3, Heap.size_push]; exact Nat.lt_succ_of_lt lt
  have w3 : tn 0 s3.heap := T.keep _ _ _ w2 fun b _ o e => hp3 ▸ Heap.get?_push_of_some _ e
  have V4 := block_start V3 blk once p3
  have free3 : ∀ b ∈ fp, (L2.upd H2 D (DctN X.prog X.w D [])) b = none := fun b hb => (p3 b hb).1.1
  generalize hcl : cellsFrom (s3.heap.objs.size + 1) scope.names (cloFrom X.env.cells scope.names []) = cl at V4
  have rg := rg s3 (L2.upd H2 D (DctN X.prog X.w D [])) s3.heap.objs.size cl fp
  have rt := rt s3 (L2.upd H2 D (DctN X.prog X.w D [])) s3.heap.objs.size cl fp
  have rk := rk s3 (L2.upd H2 D (DctN X.prog X.w D [])) s3.heap.objs.size cl fp
  have rv := rv s3 (L2.upd H2 D (DctN X.prog X.w D [])) s3.heap.objs.size cl fp
  show codeAny _ _ (.compStart _ 0 (.ref it) (.ref D) (compEnvC scope cl s3.heap.objs.size X.env)) _ { s3 with heap := pushCells (s3.heap.push { cls := .type "dict", data := .dict #[] }) scope.names }
  generalize hce : compEnvC scope cl s3.heap.objs.size X.env = ce at V4 rg rt rk rv ⊢
  have loc : ce.locals = s3.heap.objs.size := by subst hce; rfl
  generalize L2.upd H2 D (DctN X.prog X.w D []) = H3 at V3 V4 rg rt rk rv w0 free3 p3
  generalize e4 : ({ s3 with heap := pushCells (s3.heap.push { cls := .type "dict", data := .dict #[] }) scope.names } : Shared) = s4 at V4 ⊢
  have w4 : tn 0 s4.heap := T.keep _ _ _ w3 fun b _ o e => by subst e4; exact pushCells_keeps _ _ _ _ (Heap.get?_push_of_some _ e)
  have aside : ∀ {σ' : L2.St} {H' : Hp} {s' : Shared}, L2.Inv (X.blk s3 H3 scope ce fp) [] σ' H' s' → (∀ b ∈ fp, H' b = none) → ∀ b ∈ fp, FpOk (X.blk s3 H3 scope ce fp) [] H' b := fun V' nn b hb =>
    ⟨nn b hb, (V'.ok.exf b hb).1, V'.ok.exfs b hb, .inl hb, fun x c e => (V'.ok.exf b hb).2 x c e, fun p hp => absurd hp (by simp)⟩
  have loop : codeAny (model X.prog X.w) X.A (.compLoop (.DictComp kx vx [⟨tg, iter, ifs, 0⟩] scope pos) 0 (.ref it) (.ref D) ce) (compPost (model X.prog X.w) X.A X.xe none (EP X pins σ Q) (.ref D) s3.heap.objs.size) s4 := by
    refine compLoop_anyD (fun n s' => ∃ i H', L2.Inv (X.blk s3 H3 scope ce fp) [] (wipe σ (own.map (·.2))) H' s' ∧ tn i s'.heap ∧ (∀ b ∈ fp, H' b = none) ∧ W i n H') ?_ m0 ⟨0, H3, V4, w4, free3, w0⟩
    rintro n s5 ⟨i, H5, V5, w5, n5, u5⟩
    rcases turn i n H5 u5 with ⟨halt, got⟩ | ⟨go, Nx, down, step⟩
    · refine thnF (T.done (X.blk s3 H3 scope ce fp) rfl rfl rfl calm i [] s5 _ H5 (fun _ _ => False) V5 (aside V5 n5) w5 halt) fun r s6 ⟨er, V6⟩ => ?_
      subst er
      -- back among the def's own names
      have V7 : L2.Inv X pins σ H5 s6 := V3.call' (ch := fp) V6.os V6.base V6.hok V6.bare fun b hb => let z := (p3 b hb).1.2; ⟨z.2.2.1, z.1, z.2.2.2.1, z.2.2.2.2⟩
      have nC : H5 s3.heap.objs.size = none := loc ▸ V6.free
      obtain ⟨m, ns, _⟩ := V6.loc
      have ns : s6.heap.Ns s3.heap.objs.size m := loc ▸ ns
      obtain ⟨f0, f1, f2, f3, f4, f5⟩ := V3.fpOk (Nat.le_refl _) nC
      exact ⟨m, ns, fun h2 sb => ⟨.ref D, H5, V7.turned (t' := s6.toks) (fun b o hb e => (sb.2 b hb).trans e) f0 f1 f3 f4 f5, rfl, got⟩⟩
    · refine thnF (T.item (X.blk s3 H3 scope ce fp) rfl rfl rfl calm i [] s5 _ H5 (fun _ _ => False) V5 (aside V5 n5) w5 go) fun r s6 ⟨u, er, h6⟩ => ?_
      subst er
      refine thnF h6 fun _ s7 ⟨x, H7, V7, r7, y7, w7, n7⟩ => ?_
      have P7 := V7.pinned (aside V7 n7) (T.obj _ _ w7)
      refine thnF (rg.run _ s7 _ H7 x u _ P7 r7 (step x H7 y7)) fun _ s8 ⟨σ8, H8, V8, same8, q8⟩ => ?_
      refine thnF (rt.run _ s8 σ8 H8 _ V8 q8) fun b s9 ⟨H9, V9, q9⟩ => ?_
      have next : ∀ {s' : Shared} {H' : Hp}, L2.Inv (X.blk s3 H3 scope ce fp) ([] ++ pinsAt fp s7.heap) σ8 H' s' → Nx H' → ∃ m, m < n ∧ ∃ i H', L2.Inv (X.blk s3 H3 scope ce fp) [] (wipe σ (own.map (·.2))) H' s' ∧ tn i s'.heap ∧ (∀ b ∈ fp, H' b = none) ∧ W i m H' := fun {s' H'} V' nx => by
        obtain ⟨m', lt, u'⟩ := down H' nx
        have fixed : ∀ b ∈ fp, ∀ o, s7.heap.get? b = some o → s'.heap.get? b = some o ∧ H' b = none := fun b hb o e =>
          let z := V'.pin (b, o) (List.mem_append_right _ (List.mem_append_right _ (mem_pinsAt hb e))); ⟨z.1, z.2.1⟩
        refine ⟨m', lt, i + 1, H', (V'.unpinned (pins := [])).weak (by rw [← same8, wipe_length]) (fun j v e => (wipe_some (same8 ▸ e)).1), T.keep _ _ _ w7 fun b hb o e => (fixed b hb o e).1, fun b hb => ?_, u'⟩
        obtain ⟨o, e, _⟩ := T.obj _ _ w7 b hb
        exact (fixed b hb o e).2
      cases b with
      | false =>
        simp only [Bool.false_eq_true, if_false] at q9 ⊢
        exact next V9 q9
      | true =>
        simp only [if_true] at q9 ⊢
        refine thnF (rk.run _ s9 σ8 H9 _ V9 q9) fun z1 s10 ⟨yk, H10, V10, r10, q10⟩ => thnF (rv.run _ s10 σ8 H10 _ V10 q10) fun z2 s11 ⟨yv, H11, V11, r11, q11⟩ => ?_
        exact dictSet_N (X := X.blk s3 H3 scope ce fp) room V11 r10 r11 q11 fun s12 H12 V12 nx => next V12 nx
  exact codeAny_compStart_dict loop (T.self X.A 0 _ _ _ w4 loop)
/-- over any walk -/
theorem dcN_it {P : Program} {w : World} {J : It} {n : Nat} {G : Hp → Prop} {Y : Nat → Hp → V → Hp → Prop} (wk : Walk J n G Y) {g : TG} {tt : TT} {tk tv : TE} {vs : List Nat} {σ : L2.St} {H1 : Hp} {D : Addr} {Qd : Hp → Prop} (Pv : Nat → Hp → Prop) (h0 : Pv 0 (L2.upd H1 D (DctN P w D []))) (hG : ∀ i H, i ≤ n → Pv i H → G H)
    (hs : ∀ i x H H', i < n → Pv i H → Y i H x H' → g x (wipe σ vs) H' fun σ2 H2 => wipe σ2 vs = wipe σ vs ∧ tt σ2 H2 fun b H3 => if b = true then tk σ2 H3 fun y H4 => tv σ2 H4 fun z H5 => sPutN P w D y z H5 (Pv (i + 1)) else Pv (i + 1) H3) (hd : ∀ H, Pv n H → Qd H) :
    ∃ W : Nat → Nat → Hp → Prop, (∃ m, W 0 m (L2.upd H1 D (DctN P w D []))) ∧ ∀ i m H, W i m H →
      (J.stop i H ∧ Qd H) ∨ (J.go i H ∧ ∃ Nx : Hp → Prop, (∀ H', Nx H' → ∃ m', m' < m ∧ W (i + 1) m' H') ∧ ∀ x H', J.yld i H x H' → g x (wipe σ vs) H' fun σ2 H2 => wipe σ2 vs = wipe σ vs ∧ tt σ2 H2 fun b H3 =>
        if b = true then tk σ2 H3 fun y H4 => tv σ2 H4 fun z H5 => sPutN P w D y z H5 Nx else Nx H3) := by
  refine ⟨fun i m H => m = n - i ∧ i ≤ n ∧ Pv i H, ⟨n, by simp, Nat.zero_le _, h0⟩, fun i m H ⟨em, hi, p⟩ => ?_⟩
  by_cases lt : i < n
  · exact .inr ⟨wk.goes i H lt (hG i H hi p), Pv (i + 1), fun H' p' => ⟨n - (i + 1), by omega, rfl, lt, p'⟩, fun x H' y => hs i x H H' lt p (wk.yields i H x H' lt (hG i H hi p) y)⟩
  · obtain rfl : i = n := by omega
    exact .inl ⟨wk.stops H (hG _ H hi p), hd H p⟩
end
end CP
/-! the rules of CpPairK, CpDict, CpDictC with the program and the world named outright -/
namespace CP
open PySem PySem.Spec PyProof.Rows L2
section
variable {X : Cx} (P : Program) (w : World)
theorem cr_set0P (h1 : X.prog = P) (h2 : X.w = w) : CallR X (.type "set") (rSet0N P w) := by subst h1; subst h2; exact cr_set0N
theorem or_sinP (h1 : X.prog = P) (h2 : X.w = w) (hu : X.A.units + 64 < cLine) : OpR X (compareOp .In) (rSInN P w) := by subst h1; subst h2; exact or_sinN hu
theorem pe_saddP (h1 : X.prog = P) (h2 : X.w = w) {o e : Expr} {es : List Expr} {to : TE} {t : TA} {apos cpos : Pos} (hu : X.A.units + 64 < cLine) (ho : PE X o to) (ha : PA X (e :: es) t) (hbase : attributeBase o "add" X.env (eval o X.env) = eval o X.env := by rfl)
    (hfew : ((backTo cpos (starEach (e :: es) X.env)).all (fun x => !x.1) && (backToKw cpos (keywordEach [] X.env)).all (fun x => x.1.isSome) && decide ((e :: es).length + ([] : List Keyword).length + (if ([] : List Keyword).isEmpty then 0 else 1) < 30)) = true := by rfl)
    (hl : (apos.endLine == cpos.line) = true := by rfl) (hs : starEach (e :: es) X.env = (false, eval e X.env) :: starEach es X.env := by rfl) (hp : (backTo cpos (starEach es X.env)).any (·.1) = false := by rfl) :
    PE X (.Call (.Attribute o "add" apos) (e :: es) [] cpos) (tSAddN P w to t) := by subst h1; subst h2; exact pe_saddNN hu ho ha hbase hfew hl hs hp
theorem pe_getP (h1 : X.prog = P) (h2 : X.w = w) {o i : Expr} {td ty : TE} {pos : Pos} (hu : X.A.units + 64 < cLine) (ho : PE X o td) (hi : PE X i ty) (hs : NoSl i) : PE X (.Subscript o i pos) (tGetN P w td ty) := by subst h1; subst h2; exact pe_getN hu ho hi hs
theorem set_dictP (h1 : X.prog = P) (h2 : X.w = w) (hu : X.A.units + 64 < cLine) : PSet X (rPutN P w) := by subst h1; subst h2; exact set_dictN hu
theorem pe_dcP (h1 : X.prog = P) (h2 : X.w = w) {kx vx tg iter : Expr} {ifs : List Expr} {scope : Scope} {own : List (Str × Nat)} {pos : Pos} {wi : TI} {g : TG} {tt : TT} {tk tv : TE} (calm : X.calm = true) (once : X.N.Nodup) (room : X.A.units + 64 < cLine) (ri : PI X tg iter wi) (blk : BlkOk X.N X.env.scope scope own)
    (rg : ∀ s H C cl fp, PG (X.blk s H scope (compEnvC scope cl C X.env) fp) tg g) (rt : ∀ s H C cl fp, PTs (X.blk s H scope (compEnvC scope cl C X.env) fp) ifs tt)
    (rk : ∀ s H C cl fp, PE (X.blk s H scope (compEnvC scope cl C X.env) fp) kx tk) (rv : ∀ s H C cl fp, PE (X.blk s H scope (compEnvC scope cl C X.env) fp) vx tv) (plain : ∀ x, foldedSetIterable iter X.env x = pure x := by intro _; rfl) :
    PE X (.DictComp kx vx [⟨tg, iter, ifs, 0⟩] scope pos) (tDcN P w wi g tt tk tv (own.map (·.2))) := by subst h1; subst h2; exact pe_dcN calm once room ri blk rg rt rk rv plain
end
end CP
/-! Defs that show data (repr): the promise holds where no repr is running around the call. -/
namespace CP
open PySem PySem.Spec PyProof.Rows L2
structure FnG (P : Program) (w : World) (K : PySem.W.Frag) (mg : Str → Option Value) (base : Heap) (k : Nat) (f : Addr) (fd : FuncData) (ps : List Str) (sp : Sp) : Prop where
  len : ∀ vs H Q E, sp vs H Q E → vs.length = ps.length
  run : ∀ (A : Around) (outer : List Env) (s : Shared) (H : Hp) (args : Args) (us : List Value) (vs : List V) (Q : VK) (E : XK), Room k A → A.guards = some [] → Env0 P w K mg base A outer s H → BindsTo s fd args (ps.zip us) → Vals vs us → sp vs H Q E →
    codeAny (model P w) A (.call (.ref f) args) (CR CX0 outer P w H s Q E) s
section
variable {P : Program} {w : World} {K : PySem.W.Frag} {mg : Str → Option Value} {base : Heap}
theorem okG {x qual : Str} {st : Stmt} {f : Addr} {fd : FuncData} {N ps : List Str} {k : Nat} {sp : Sp} (F : Fun K x qual st f fd) (S : FnScope N ps (defScope st)) (len : ∀ vs H Q E, sp vs H Q E → vs.length = ps.length)
    (body : ∀ (cdv : Value) (A : Around) (outer : List Env) (s : Shared) (H : Hp) (vs : List V) (Q : VK) (E : XK), Room k (A.deeper (envOfC qual (defScope st) s.heap.objs.size f cdv)) → (A.deeper (envOfC qual (defScope st) s.heap.objs.size f cdv)).guards = some [] → sp vs H Q E →
      ∃ t, PSs (cxOf CX0 P w K mg base N qual (defScope st) f cdv A outer s H E).nox (defBody st) t ∧ t { nx := fun _ H' => Q .non H', rt := Q } (start N vs) H) : FnG P w K mg base (k + 1) f fd ps sp := by
  obtain ⟨oc, od, kV, doc, pm, an, cdv, ct, osl, rfl, lk, hcd⟩ := F.ex
  refine ⟨len, fun A outer s H args us vs Q E room gds env0 hb vals hsp => ?_⟩
  have up : ∀ b o, base.get? b = some o → s.heap.get? b = some o := fun b o e => (env0.bs b o e).1
  have KIn : K.In s.heap := env0.mod.kin.keeps up
  have kinds : ∀ y ∈ ps.zip us, (defScope st).names.lookup y.1 = some .local ∨ ((defScope st).names.lookup y.1 = some .cell ∧ ((cellsFrom (s.heap.objs.size + 1) (defScope st).names []).lookup y.1).isSome = true) := fun ⟨n, v⟩ hy =>
    (S.par n (List.of_mem_zip hy).1).elim .inl fun q => .inr ⟨q, PySem.W.cellsFrom_some _ _ _ (.inl q)⟩
  refine codeAny_call_function room.depth (KIn _ _ lk) rfl S.co S.gen rfl (PySem.W.codeRec_of KIn hcd) (hb _ _ _ _ (wpAny_newFunctionEnv_cells S.kind kinds fun env he s1 x => ?_))
  subst he
  refine ⟨(env0.mod.nolimit.keeps up).keeps x.toInCall.keep, codeAny_func ?_⟩
  obtain ⟨t, ht, hq⟩ := body cdv A outer s H vs Q E (room.deeper _) gds hsp
  have I : L2.Inv (cxOf CX0 P w K mg base N qual (defScope st) f cdv A outer s H E) [] (start N vs) H s1 := inv_start S room.hd env0 (len _ _ _ _ hsp) vals x
  refine wpAny_mono (ht.nox.run [] s1 (start N vs) H _ I hq) (fun fl s' hs => ?_) fun e s' hs => hs
  have done : ∀ {σ' : L2.St} {H' : Hp} {v : V} {u : Value}, L2.Inv (cxOf CX0 P w K mg base N qual (defScope st) f cdv A outer s H E) [] σ' H' s' → RelV v u → Q v H' → CE outer P w H s Q u s' := fun J rv q => ⟨_, _, J.os, J.bare, J.base, J.hok, rv, q⟩
  match fl, hs with
  | .ret u, ⟨v, σ', H', J, rv, q⟩ => exact done J rv q
  | .next, ⟨σ', H', J, q⟩ => exact done (v := V.non) (u := Value.none) J rfl q
  | .brk, ⟨_, _, _, q⟩ => exact q.elim
  | .cont, ⟨_, _, _, q⟩ => exact q.elim
end
section
variable {X : Cx} {x : Str} {p pos : Pos} {e : Expr} {es : List Expr} {t : TA} {k : Nat} {f : Addr} {fd : FuncData} {ps : List Str} {sp : Sp}
theorem pe_callG (F : FnG X.prog X.w X.K X.mg X.base k f fd ps sp) (hr : Room k X.A) (gds : X.A.guards = some []) (hg : Gl X x) (hm : X.mg x = some (.ref f)) (hk : PySem.W.keepIn X.K (.ref f) = true) (hb : Binds X.K fd ps []) (ha : PA X (e :: es) t)
    (hdb : (x == ("__debug__" : Str)) = false := by decide) (he : starEach (e :: es) X.env = (false, eval e X.env) :: starEach es X.env := by rfl) (hpl : (backTo pos (starEach es X.env)).any (·.1) = false := by rfl) : PE X (.Call (.Name x p) (e :: es) [] pos) (tCall sp [] E0 t) := by
  refine ⟨fun pins s σ H Q I h => wpAny_Call_Name_kw (ld_glob I hg hm ?_ hdb)⟩
  refine PySem.W.callWith_K (h₀ := X.base) I.ok.mod.kin hk (thn (ha.run pos pins s σ H _ I h) fun us s1 ⟨vs, H1, I1, r, q⟩ => ⟨I1.kIn, ?_⟩) he hpl
  have r2 : Vals (vs ++ []) (us ++ []) := r.append .nil
  have hl : (us ++ []).length = ps.length := by rw [← r2.length]; exact F.len _ _ _ _ q
  refine wpAny_call (codeAny_mono (F.run X.A X.stack s1 H1 ⟨us, []⟩ (us ++ []) (vs ++ []) Q E0 hr gds I1.env0 (hb s1 us I1.kIn hl) r2 q) fun res s' hq => ?_)
  match res, hq with
  | .error err, hq => exact (hq : False).elim
  | .ok (.ret u), hq => exact I1.after hq
  | .ok .next, hq => exact False.elim hq
  | .ok .brk, hq => exact False.elim hq
  | .ok .cont, hq => exact False.elim hq
/-- repr(x) of data that can be shown -/
def rReprD (K : PySem.W.Frag) : List V → Hp → VK → Prop := fun xs H Q => ∃ (a : Addr) (d : PyData), xs = [.ref a] ∧ Dp K H (.ref a) d ∧ d.showable = true ∧ d.hasDict = false ∧ d.depth ≤ 60 ∧ d.shown.length ≤ sizeLine ∧ Q (.str d.shown) H
theorem call_reprD (gds : X.A.guards = some []) (hu : X.A.units + 64 < cLine) : CallR X (.builtin "repr") (rReprD X.K) := by
  intro pins s σ H xs us Q I r h
  obtain ⟨a, d, rfl, hd, h1, h2, h3, h4, q⟩ := h
  rw [Vals.ref1 r]
  obtain ⟨as, rd⟩ := Dp.reads I d _ (Value.ref a) hd rfl
  exact repr_of_reads' rd h1 (fun z => by rw [h2] at z; cases z) gds (by omega) (fun _ _ z => z) (fun h' u tk hk => ⟨.str d.shown, H, I.kept (t' := tk) hk, ⟨_, rfl⟩, q⟩) h4
end
end CP
namespace CP
open PySem PySem.Spec PyProof.Rows L2
theorem callG {P : Program} {w : World} {K : PySem.W.Frag} {mg mb : Str → Option Value} {k : Nat} {fa a : Addr} {fd : FuncData} {x : Str} {sp : Sp} {s0 : Shared} {vs : List Value} {ns : List Int}
    (KX : K.In s0.heap) (n1 : s0.heap.Ns mainGlobals mg) (n2 : s0.heap.Ns builtinsNs mb) (n3 : ∀ x : Str, x ≠ "__name__" → mb x = bootBuiltins x) (lim : s0.heap.NoLimit) (gens : s0.gens = #[])
    (obj : s0.heap.get? a = some { cls := .type "list", data := .seq vs.toArray }) (hints : IntsAre vs ns) (few : ns.length ≤ sizeLine) (room : Room k callerA)
    (F : ∀ base : Heap, K.In base → base.Ns mainGlobals mg → FnG P w K mg base k fa fd [x] sp) (bind : ∀ (s : Shared) (u : Value), BindsTo s fd ⟨[u], []⟩ [(x, u)])
    (hsp : ∀ H : Hp, SqL K H a (ns.map V.int) → sp [.ref a] H (fun v _ => v = .bl true) fun _ _ _ => False) :
    codeAny (model P w) callerA (.call (.ref fa) ⟨[.ref a], []⟩) (fun r s' => r = .ok (.ret (.bool true)) ∧ OldK s0.heap s'.heap ∧ s'.os = s0.os ∧ AllBare s'.gens) s0 := by
  have rv := vals_ints hints
  have lenV := hints.length
  have core : ∀ H : Hp, (∀ b, H b = none ∨ ∃ ob xs, H b = some (.frz ob (.lst xs))) → SqL K H a (ns.map V.int) → HOk P w H s0.heap → (∀ b, H b ≠ none → b = a) → (H a ≠ none → K.lookup a = none) →
      codeAny (model P w) callerA (.call (.ref fa) ⟨[.ref a], []⟩) (fun r s' => r = .ok (.ret (.bool true)) ∧ OldK s0.heap s'.heap ∧ s'.os = s0.os ∧ AllBare s'.gens) s0 := by
    intro H only sq ok onlyA unk
    have noD : ∀ {b : Addr} {o : Obj} {es : Array DictEntry} {ep : Nat}, s0.heap.get? b = some o → o.data = .dict es ep → H b = none := fun {b o es ep} e d => by
      cases q : H b with
      | none => rfl
      | some u =>
        obtain rfl : b = a := onlyA b (by rw [q]; simp)
        rw [obj] at e; cases e; cases (show Data.seq vs.toArray _ = Data.dict es ep from d)
    have nsH : ∀ {b : Addr} {m : Str → Option Value}, s0.heap.Ns b m → (hidT s0.heap H).Ns b m := fun ⟨o, es, ep, e, d, r⟩ => ⟨o, es, ep, hidT_get e (noD e d), d, r⟩
    have kH : K.In (hidT s0.heap H) := fun b o e => hidT_get (KX b o e) (by
      cases q : H b with
      | none => rfl
      | some u =>
        obtain rfl : b = a := onlyA b (by rw [q]; simp)
        rw [unk (by rw [q]; simp)] at e; cases e)
    have md : Mod K mg (hidT s0.heap H) := ⟨kH, nsH n1, ⟨mb, nsH n2, n3⟩, let ⟨mc, h1, h2⟩ := lim; ⟨mc, nsH h1, h2⟩⟩
    have env0 : Env0 P w K mg (hidT s0.heap H) callerA [] s0 H := ⟨rfl, md, fun b o e => of_hidT e, Nat.le_of_eq (hidT_size _ _), trivial, fun b hb => absurd (show b ∈ ([] : List Addr) from hb) (by simp), ok, .of_eq gens⟩
    refine codeAny_mono ((F _ kH (nsH n1)).run callerA [] s0 H ⟨[.ref a], []⟩ [.ref a] [.ref a] _ _ room rfl env0 (bind s0 (.ref a)) (.cons rfl .nil) (hsp H sq)) fun r s' h => ?_
    match r, h with
    | .error e, h => exact (h : False).elim
    | .ok .next, h => exact False.elim h
    | .ok .brk, h => exact False.elim h
    | .ok .cont, h => exact False.elim h
    | .ok (.ret u), ⟨v, H', os, bare, un, ok', r', q⟩ =>
      obtain rfl : v = .bl true := q
      obtain rfl : u = Value.bool true := r'
      refine ⟨rfl, OldK.of_keep fun b o e => ?_, os, bare⟩
      rcases only b with q | ⟨ob, xs, q⟩
      · exact un.keep b o e q (fun z => absurd (show b ∈ ([] : List Addr) from z) (by simp)) (by simp)
      · obtain ⟨e1, _⟩ := ok b _ q
        obtain ⟨e2, _⟩ := ok' b _ (un.frzs b ob _ q)
        rw [e] at e1; cases e1; exact e2
  cases hk : K.lookup a with
  | some o =>
    have e := KX a o hk
    rw [obj] at e
    cases e
    exact core (fun _ => none) (fun _ => .inl rfl) (.inr ⟨_, vs.toArray, _, hk, rfl, rfl, rfl, by rw [List.size_toArray, lenV]; exact few, by simpa using rv⟩) (fun b u z => by cases (show (none : Option HO) = some u from z)) (fun b z => absurd rfl z) fun z => absurd rfl z
  | none =>
    refine core (fun b => if b = a then some (.frz { cls := .type "list", data := .seq vs.toArray } (.lst (ns.map V.int))) else none) (fun b => ?_) (.inl (.inr ⟨{ cls := .type "list", data := .seq vs.toArray }, if_pos rfl⟩)) (fun b u z => ?_) (fun b z => ?_) fun _ => hk
    all_goals by_cases hb : b = a
    · exact .inr ⟨_, _, if_pos hb⟩
    · exact .inl (if_neg hb)
    · have z' := (if_pos hb).symm.trans z
      cases z'; subst hb
      exact ⟨obj, by rw [List.length_map]; exact few, vs, _, rv, obj⟩
    · cases (if_neg hb).symm.trans z
    · exact hb
    · exact absurd (if_neg hb) z
theorem walkG {l : PySem.W.OpenLaw} {n k : Nat} {q : Program} {loose : List Str} {XP : (Str → Option Value) → Heap → Prop} {YP : World → Heap → Prop} {d : DefRec} {K : Params → PySem.W.Frag} {sp : PySem.W.Frag → Sp} {x : Str}
    (hn : l.most = some n) (hn2 : n ≤ sizeLine) (hdf : d.params.defaults = []) (room : Room k callerA) (hY : ∀ (w : World) (h : Heap), YP w h → (K w.params).In h)
    (F : ∀ (w : World) (mg : Str → Option Value) (fa : Addr) (h : Heap), (K w.params).In h → h.Ns mainGlobals mg → mg d.name = some (.ref fa) → ∃ fd : FuncData, (∀ (s : Shared) (u : Value), BindsTo s fd ⟨[u], []⟩ [(x, u)]) ∧
        ∀ base : Heap, (K w.params).In base → base.Ns mainGlobals mg → FnG l.prog w (K w.params) mg base k fa fd [x] (sp (K w.params)))
    (hsp : ∀ (K : PySem.W.Frag) (H : Hp) (a : Addr) (ns : List Int), ns.length ≤ n → SqL K H a (ns.map V.int) → sp K [.ref a] H (fun v _ => v = .bl true) fun _ _ _ => False) :
    PySem.W.WalkO q loose XP YP l.row.toRowW d [] (fun f vs => PySem.call f vs) := by
  refine Att.attach_call hn hdf fun w s0 s1 mg mb fa o pm cd doc a vs ns G Y ho hd hcd hmg hobj hints hlen hg => ?_
  have KX := hY w _ Y
  obtain ⟨fd, hb, hF⟩ := F w mg fa _ KX G.T.g hmg
  exact callG KX G.T.g G.T.b G.T.builtins G.T.nolimit hg hobj hints (Nat.le_trans hlen hn2) room hF hb fun H hS => hsp _ H a ns hlen hS
end CP
/-! Exceptions as values: made, kept, asked for their class, their fields read. -/
namespace CP
open PySem PySem.Spec PyProof.Rows L2
/-- an exception of a built-in class at a -/
def bxo (a : Addr) (T : String) : HO := .ext fun h => ∃ o, h.get? a = some o ∧ o.cls = .type T
theorem bxo_ok {P : Program} {w : World} {H : Hp} {h : Heap} {a : Addr} {T : String} {o : Obj} (e : h.get? a = some o) (c : o.cls = .type T) : ObjOk P w H h a (bxo a T) :=
  ⟨⟨o, e, c⟩, ⟨o, e⟩, fun _ _ ⟨o, q, r⟩ k => ⟨o, k o q, r⟩⟩
/-- what isinstance and the fields' reading want of the class -/
structure XCls (K : PySem.W.Frag) (C : Addr) : Prop where
  cl : (PySem.W.clsIn K C).isSome = true
  ga : PySem.W.findIn K (.ref C) "__getattribute__" = some (some (.builtin "BaseException.__getattribute__"))
  gg : PySem.W.findIn K (.ref C) "__getattr__" = some none
  sb : PySem.W.subIn K (.ref C) (.type "BaseException") = some true
  hd : PySem.W.hasDictIn K C = true
  ca : PySem.W.findIn K (.ref C) "__class__" = some (some (.builtin "object.__class__"))
  sg : PySem.W.specialIn K (.builtin "object.__class__") "__get__" = some (some (.builtin "getset_descriptor.__get__"))
  tk : PySem.W.takesIn K (.builtin "object.__class__") = some true
  mo : PySem.W.mroIn K C (.type "object") = some true
/-- an exception value: of an own class (with a field or without), or a ValueError -/
inductive TyE (K : PySem.W.Frag) (H : Hp) : V → Value → Prop where
  | plain {a C : Addr} (h : H a = some (exo a C none)) (T : XCls K C) : TyE K H (.ref a) (.ref C)
  | field {a C d : Addr} {fs : List (Str × V)} (h : H a = some (exo a C (some d))) (hd : H d = some (exd d fs)) (T : XCls K C) : TyE K H (.ref a) (.ref C)
  | blt {a : Addr} (h : H a = some (bxo a "ValueError")) : TyE K H (.ref a) (.type "ValueError")
section
variable {X : Cx} {pins : List (Addr × Obj)} {σ : L2.St} {H : Hp} {s : Shared}
theorem exd_get {P : Program} {w : World} {h : Heap} {dx : Addr} {fs : List (Str × V)} (ok : HOk P w H h) (he : H dx = some (exd dx fs)) : ∃ o, h.get? dx = some o := by
  obtain ⟨mA, ⟨o, _, _, e, _⟩, _⟩ := exd_at ok he
  exact ⟨o, e⟩
def rIsiE (K : PySem.W.Frag) : List V → Hp → VK → Prop := fun xs H Q => ∃ (x c : V) (t u : Value) (b : Bool), xs = [x, c] ∧ ClsV c u ∧ TyE K H x t ∧ PySem.W.kitOne K t u = some b ∧ Q (.bl b) H
theorem call_isiE : CallR X (.builtin "isinstance") (rIsiE X.K) := by
  intro pins s σ H xs us Q I r h
  obtain ⟨x, c, t, u, b, rfl, k, ty, e, q⟩ := h
  obtain ⟨u1, u2, rfl, r1, r2⟩ := vals2 r
  have e2 := k.eq r2
  subst e2
  cases ty with
  | @plain a C h T =>
    cases (show u1 = Value.ref a from r1)
    obtain ⟨t1, ho⟩ := exo_at I.hok h
    exact PySem.W.kia_one (PySem.W.kitx_exc (od := none) T.cl T.ga T.gg T.sb T.ca T.sg T.tk T.mo) I.kIn ⟨ho, rfl, rfl, trivial⟩ e (fun z => nomatch z) fun tk => ⟨.bl b, H, I.tok tk, rfl, q⟩
  | @field a C d fs h hd T =>
    cases (show u1 = Value.ref a from r1)
    obtain ⟨t1, ho⟩ := exo_at I.hok h
    obtain ⟨oD, hoD⟩ := exd_get I.hok hd
    exact PySem.W.kia_one (PySem.W.kitx_exc (od := some oD) T.cl T.ga T.gg T.sb T.ca T.sg T.tk T.mo) I.kIn ⟨ho, rfl, rfl, hoD⟩ e (fun z => nomatch z) fun tk => ⟨.bl b, H, I.tok tk, rfl, q⟩
  | @blt a h =>
    cases (show u1 = Value.ref a from r1)
    obtain ⟨o, ho, hc⟩ := (I.hok a _ h).1
    exact PySem.W.kia_one (PySem.W.kitx_bexc PySem.F.excAttr_ValueError PySem.F.lkClass_ValueError PySem.F.soClass_ValueError (by decide)) I.kIn ⟨o, ho, hc⟩ e (fun z => nomatch z) fun tk => ⟨.bl b, H, I.tok tk, rfl, q⟩
/-- e.f, e such a value -/
def tFldE (K : PySem.W.Frag) (f : Str) (te : TE) : TE := fun σ H Q => te σ H fun x H1 => ∃ (a C d : Addr) (fs : List (Str × V)) (v : V), x = .ref a ∧ H1 a = some (exo a C (some d)) ∧ H1 d = some (exd d fs) ∧ XCls K C ∧ PySem.W.findIn K (.ref C) f = some none ∧ fs.lookup f = some v ∧ Q v H1
theorem pe_fldE {e : Expr} {te : TE} {pos : Pos} {n : Str} (he : PE X e te) (hb : attributeBase e n X.env (eval e X.env) = eval e X.env := by rfl) : PE X (.Attribute e n pos) (tFldE X.K n te) := by
  refine ⟨fun pins s σ H Q I h => attr_of hb (thn (he.run pins s σ H _ I h) fun u s1 ⟨x, H1, I1, rx, a, C, d, fs, v, ex, ha, hd, T, no, l, q⟩ => ?_)⟩
  subst ex
  obtain rfl : u = Value.ref a := rx
  obtain ⟨t1, ho⟩ := exo_at I1.hok ha
  obtain ⟨mA, hns, hr⟩ := exd_at I1.hok hd
  obtain ⟨od, ho2, hl⟩ := lookIn_ns hns
  obtain ⟨u, hu, ru⟩ := RelO.some_of (v := v) (o := mA n) (by rw [← l]; exact hr n)
  exact HandSPX.exc_get I1.kIn ⟨ho, rfl, rfl, ho2⟩ T.ga T.gg T.sb (PySem.W.findObj_own T.hd no rfl (by rw [hl, hu])) (handed_of ru) ⟨v, H1, I1.tok _, ru, q⟩
/-- a new object at an address that the heap has not -/
theorem laid_new {h' : Heap} {a : Addr} {o : HO} {t' : Nat} (I : L2.Inv X pins σ H s) (k : ∀ b u, s.heap.get? b = some u → h'.get? b = some u) (new : s.heap.get? a = none) (hn : H a = none) (ok : ObjOk X.prog X.w (L2.upd H a o) h' a o) : L2.Inv X pins σ (L2.upd H a o) { s with heap := h', toks := t' } := by
  refine I.un ⟨fun b u q _ _ _ => k b u q, fun b u q _ _ _ => ⟨u.slots, k b u q⟩, fun b u q n _ => ?_, fun b u q _ => ⟨u, k b u q⟩, fun b xs q => ?_, fun b u xs q => ?_, fun b ps q => ⟨#[], ?_⟩⟩ fun b u e => ?_
  · rw [upd_ne (fun z => by rw [z, new] at q; cases q)]; exact n
  · rw [upd_ne (ne_of_none q hn)]; exact q
  · rw [upd_ne (ne_of_none q hn)]; exact q
  · rw [upd_ne (ne_of_none q hn), q]; simp
  · by_cases hb : b = a
    · subst hb; rw [upd_same] at e; cases e; exact ok
    · rw [upd_ne hb] at e
      exact (I.hok b u e).stay (fun c v _ q => k c v q) (fun c q => by rw [upd_ne (ne_of_none q hn)]; exact q) fun c xs q => by rw [upd_ne (ne_of_none q hn)]; exact q
/-- ValueError('x') -/
theorem pe_bexc {m : Str} {j : Nat} {p p2 pos : Pos} (hg : Gl X "ValueError") (hm : X.mg "ValueError" = none) : PE X (.Call (.Name "ValueError" p) [.Constant (.str m) j p2] [] pos) (fun _ H Q => ∀ a, H a = none → Q (.ref a) (L2.upd H a (bxo a "ValueError"))) := by
  refine ⟨fun pins s σ H Q I h => wpAny_Call_Name_kw (ld_blt I hg hm boot_ValueError ?_ (by decide) (by decide))⟩
  refine PyProof.Rows.callWith_type1 (thn ((pa_cons (pe_str (x := m) (j := j) (pos := p2)) pa_nil).run pos pins s σ H (fun vs H1 => H1 = H ∧ vs.length = 1) I ⟨rfl, rfl⟩) fun us s1 ⟨vs, H1, I1, r1, eH, l1⟩ => ?_) rfl rfl
  subst eH
  obtain ⟨hp1, g1, d1, tk1, os1⟩ := s1
  refine wpAny_call_exc exb_ValueError.call (fun h' a mk => ?_) (by rw [← r1.length, l1, sizeLine_eq]; omega)
  have hn := I1.hok.gone mk.new
  obtain ⟨t, ht, _⟩ := mk.there
  exact ⟨.ref a, _, laid_new (t' := tk1) I1 mk.keeps mk.new hn (bxo_ok ht rfl), rfl, h a hn⟩
/-- C(), an own class without own __init__ -/
theorem pe_exc0 {C : Addr} {bmB : List Value} {B newId initId : String} {x : Str} {p pos : Pos} (F : ExcBaseFacts B newId initId bmB) (q : PySem.W.excIn X.K C bmB newId = true) (gC : X.mg x = some (.ref C)) (kC : PySem.W.keepIn X.K (.ref C) = true) (hg : Gl X x)
    (hdb : (x == ("__debug__" : Str)) = false := by decide) : PE X (.Call (.Name x p) [] [] pos) (fun _ H Q => ∀ a, H a = none → Q (.ref a) (L2.upd H a (exo a C none))) := by
  refine ⟨fun pins s σ H Q I h => wpAny_Call_Name_kw (ld_glob I hg gC (PySem.W.callWith_K0 I.kIn kC ?_) hdb)⟩
  obtain ⟨bm, N, nm, qn, bs, hdct, sn, sub, ab, col, dd, k0, k1, k2, k3, k5, mN, hC, hN, hni, T⟩ := exc_obj I.kIn q
  refine wpAny_call_exc_subT F T hC hN hni (fun h' a mk => ?_) (Nat.zero_le _)
  have hn := I.hok.gone mk.new
  obtain ⟨t, ht, _⟩ := mk.there
  exact ⟨.ref a, _, laid_new (t' := s.toks) I mk.keeps mk.new hn (exo_ok ht), rfl, h a hn⟩
/-- C(e), C's own __init__ keeping sp, as a value -/
def tMkV (C : Addr) (sp : Sp) (ta : TA) : TE := fun σ H Q => ta σ H fun vs H1 => vs.length ≤ 1000 ∧ ∀ a, H1 a = none → sp (.ref a :: vs) (L2.upd H1 a (exo a C none)) (fun v H2 => v = .non ∧ Q (.ref a) H2) E0
theorem pe_excI {e : Expr} {es : List Expr} {ta : TA} {x : Str} {C fI : Addr} {k : Nat} {fd : FuncData} {ps : List Str} {sp : Sp} {p pos : Pos} (T : OexC X.K C) (iC : PySem.W.findIn X.K (.ref C) "__init__" = some (some (.ref fI))) (tI : PySem.W.typeIn X.K (.ref fI) = some (.type "function"))
    (F1 : FnOk X.prog X.w X.K X.mg X.base CX0 k fI fd ps sp) (hr : Room (k + 1) X.A) (hb : Binds X.K fd ps []) (hg : Gl X x) (hm : X.mg x = some (.ref C)) (ha : PA X (e :: es) ta)
    (hdb : (x == ("__debug__" : Str)) = false := by decide) (he : starEach (e :: es) X.env = (false, eval e X.env) :: starEach es X.env := by rfl) (hpl : (backTo pos (starEach es X.env)).any (·.1) = false := by rfl) : PE X (.Call (.Name x p) (e :: es) [] pos) (tMkV C sp ta) := by
  obtain ⟨nm, q, N, bs, bm, sn, sub, ab, col, dd, k0, k1, k2, k3, k5, hC, hbm⟩ := T.cls
  refine ⟨fun pins s σ H Q I h => wpAny_Call_Name_kw (ld_glob I hg hm ?_ hdb)⟩
  refine PySem.W.callWith_K (h₀ := X.base) I.ok.mod.kin T.kC (thn (ha.run pos pins s σ H _ I h) fun us s1 ⟨vs, H1, I1, r1, hz, q1⟩ => ⟨I1.kIn, ?_⟩) he hpl
  show wpAny _ _ (call (.ref C) us) _ _ _
  obtain ⟨hp, g, dr, tk, os⟩ := s1
  have below : hp.objs.size ≤ hp.objs.size + 1 := Nat.le_succ _
  have fresh : H1 (hp.objs.size + 1) = none := I1.hok.fresh below
  have want := q1 (hp.objs.size + 1) fresh
  generalize hh2 : (hp.push (PySem.W.kdv_tup us)).push (PySem.HandSPX.excO C hp.objs.size) = hp2
  have keep : ∀ b o, hp.get? b = some o → hp2.get? b = some o := fun b o e => by rw [← hh2]; exact Heap.get?_push_of_some _ (Heap.get?_push_of_some _ e)
  have got : hp2.get? (hp.objs.size + 1) = some (PySem.HandSPX.excO C hp.objs.size) := by rw [← hh2]; heap_get
  have I2 : L2.Inv X pins σ (L2.upd H1 (hp.objs.size + 1) (exo (hp.objs.size + 1) C none)) ⟨hp2, g, dr, tk, os⟩ := I1.laid (t' := tk) (h' := hp2) keep below (exo_ok got)
  have r2 : Vals (V.ref (hp.objs.size + 1) :: vs) (Value.ref (hp.objs.size + 1) :: us) := .cons rfl r1
  have hl : (Value.ref (hp.objs.size + 1) :: us ++ []).length = ps.length := by
    rw [List.append_nil, ← r2.length]; exact F1.len _ _ _ _ want
  have few : us.length ≤ sizeLine := by rw [← Paired.length r1, sizeLine_eq]; omega
  have bnd := hb ⟨hp2, g, dr, tk, os⟩ (Value.ref (hp.objs.size + 1) :: us) I2.kIn hl
  rw [List.append_nil] at bnd
  refine wpAny_call (PySem.HandSPX.call_own F.excBase_ValueError (fun Y => PySem.HandSPX.refsVE_contains Y bm hbm) (I1.kIn _ _ hC) (PySem.W.looks_findIn I1.kIn iC) (fun self => PySem.W.bind_fn I1.kIn self tI) few ?_)
  rw [hh2]
  refine codeAny_mono (F1.run _ X.stack _ _ ⟨Value.ref (hp.objs.size + 1) :: us, []⟩ (Value.ref (hp.objs.size + 1) :: us) _ _ E0 (hr.make C us []) (I2.env0.make C us []) bnd r2 want) fun r s' hq => ?_
  match r, hq with
  | .error er, hq => exact (hq : False).elim
  | .ok .next, hq => exact False.elim hq
  | .ok .brk, hq => exact False.elim hq
  | .ok .cont, hq => exact False.elim hq
  | .ok (.ret u), ⟨v, H2, os2, bare2, un2, hok2, rv, ev, q2⟩ =>
    subst ev
    exact ⟨rv, .ref (hp.objs.size + 1), H2, I2.call' (ch := []) os2 un2 hok2 bare2 (fun b z => absurd z (by simp)), rfl, q2⟩
end
end CP
/-! sets of tuples of texts: set(), add, in -/
namespace CP
open PySem PySem.Spec PyProof.Rows L2
/-- at b a tuple of the texts k -/
def TkH (H : Hp) (b : Addr) (k : List Str) : Prop := H b = some (.tup (k.map V.str))
theorem TkH.same {H H' : Hp} {b : Addr} {k : List Str} (h : TkH H b k) (s : Same H H') : TkH H' b k := s _ _ h
theorem TkH.upd {H : Hp} {a b : Addr} {k : List Str} {o o' : HO} (h : TkH H b k) (ha : H a = some o) (n : ∀ xs, o ≠ .tup xs) : TkH (L2.upd H a o') b k := by
  unfold TkH; rw [upd_ne (fun q => by have h' : H b = _ := h; rw [q, ha] at h'; exact n _ (Option.some.inj h'))]; exact h
section
variable {X : Cx} {pins : List (Addr × Obj)} {σ : L2.St} {H : Hp} {s : Shared}
theorem tk_is {b : Addr} {k : List Str} (I : L2.Inv X pins σ H s) (h : TkH H b k) : TxtAt X.prog X.w s.heap k b := txt_at I (SqT.of h)
/-- the set at a, but for the keys' own tuples -/
def SetInE (P : Program) (w : World) (a : Addr) (L : List (Addr × List Str)) (h : Heap) : Prop :=
  ∃ es ep t, (∃ o, h.get? a = some o ∧ o.ExactSet ∧ o.data = .set es ep t) ∧ es.toList = rowsK (txtK P w) L ∧ TabG t (hsK (txtK P w) L) ∧ (L.map (·.2)).Nodup ∧ L.length * 5 < t.mask * 3 ∧ L.length < 250
def SetNE (P : Program) (w : World) (a : Addr) (L : List (Addr × List Str)) : HO := .ext (SetInE P w a L)
theorem setNE_ok {P : Program} {w : World} {H : Hp} {h : Heap} {a : Addr} {L : List (Addr × List Str)} (R : SetInE P w a L h) : ObjOk P w H h a (SetNE P w a L) := by
  have ⟨es, ep, t, ⟨o, ho, _⟩, _⟩ := R
  exact ⟨R, ⟨o, ho⟩, fun h1 h2 ⟨es', ep', t', ⟨o', ho', r'⟩, q'⟩ k => ⟨es', ep', t', ⟨o', k o' ho', r'⟩, q'⟩⟩
theorem SK.isInE {P : Program} {w : World} {h : Heap} {a : Addr} {L : List (Addr × List Str)} {es : Array (Int × Value)} {ep : Nat} {t : SetTable} (R : SK (txtK P w) h a L es ep t) : SetInE P w a L h := ⟨es, ep, t, R.obj, R.row, R.tab, R.nod, R.roo, R.few⟩
theorem setNE_get {a : Addr} {L : List (Addr × List Str)} (I : L2.Inv X pins σ H s) (ha : H a = some (SetNE X.prog X.w a L)) (hk : ∀ p ∈ L, TkH H p.1 p.2) : ∃ es ep t, SK (txtK X.prog X.w) s.heap a L es ep t := by
  obtain ⟨es, ep, t, h1, h2, h3, h4, h5, h6⟩ := (I.hok a _ ha).1
  exact ⟨es, ep, t, h1, h2, h3, h4, fun p hp => tk_is I (hk p hp), h5, h6⟩
/-- set() -/
def rSet0E (P : Program) (w : World) : List V → Hp → VK → Prop := fun xs H Q => xs = [] ∧ ∀ p, H p = none → Q (.ref p) (L2.upd H p (SetNE P w p []))
theorem cr_set0E0 : CallR X (.type "set") (rSet0E X.prog X.w) := by
  intro pins s σ H xs us Q I r h
  obtain ⟨rfl, q⟩ := h
  cases r
  refine setR_new fun _ => ?_
  have new := SK.new (F := txtK X.prog X.w) (h := s.heap.push (newSet X.w)) (a := s.heap.objs.size) (b := !X.w.params.followText "set-order") (Heap.get?_push_size _ rfl)
  exact ⟨.ref _, L2.upd H s.heap.objs.size (SetNE X.prog X.w s.heap.objs.size []), I.laid (t' := s.toks) (fun b u e => Heap.get?_push_of_some _ e) (Nat.le_refl _) (setNE_ok new.isInE), rfl, q _ (I.hok.fresh (Nat.le_refl _))⟩
/-- seen.add(pair) -/
def rSAddE (P : Program) (w : World) : V → List V → Hp → VK → Prop := fun x xs H Q => ∃ (a b : Addr) (k : List Str) (L : List (Addr × List Str)), x = V.ref a ∧ xs = [.ref b] ∧ H a = some (SetNE P w a L) ∧ (∀ p ∈ L, TkH H p.1 p.2) ∧ TkH H b k ∧ L.length + 1 < 250 ∧
  ∀ L', (k ∈ L.map (·.2) → L' = L) → (k ∉ L.map (·.2) → L'.Perm ((b, k) :: L)) → Q .non (L2.upd H a (SetNE P w a L'))
theorem mt_saddE (hu : X.A.units + 64 < cLine) : MtR X "set.add" (rSAddE X.prog X.w) := by
  intro pins s σ H x xs v us Q I rx rxs h
  obtain ⟨a, b, k, L, rfl, rfl, ha, hk, hb, few, q⟩ := h
  cases rx
  rw [Vals.ref1 rxs]
  obtain ⟨es, ep, t, R⟩ := setNE_get I ha hk
  obtain ⟨o, ho, hex, hd⟩ := R.obj
  have ty : s.TypeIs (.ref a) "set" := ⟨o, ho, hex.1⟩
  refine wpAny_call_entry PySem.F.slot_set_add ty PySem.F.entry_set_add ?_ (PySem.F.args_set_add_2 _ _)
  unfold Builtin.«set.add» Builtin.Frozenset.oneOther
  simp only [List.isEmpty_nil, bind_assoc]
  unfold Builtin.Frozenset.addrOf setAdd
  refine wpAny_bind (wpAny_pure ?_)
  try dsimp only
  refine wpAny_bind (wpAny_pure ?_)
  try dsimp only
  refine wpAny_bind (wpAny_holding (wpAny_bind ((txtK X.prog X.w).pyh (by simp; omega) (tk_is I hb) fun tn => ?_)))
  refine put_in (s := { s with toks := s.toks + tn }) R (show (txtK X.prog X.w).At s.heap k b from tk_is I hb) (by simp; omega) few fun c h' L' es' ep' t' sb R' c1 c2 => ?_
  show wpAny _ _ (ret Value.none) _ _ _
  obtain ⟨o', ho', _⟩ := R'.obj
  exact wpAny_pure ⟨_, rfl, .non, L2.upd H a (SetNE X.prog X.w a L'), I.write (e := a) (t' := s.toks + tn) (by rw [ha]; trivial) (.inl rfl) (fun b u hb hu => (sb.2 b hb).trans hu) ⟨o', ho'⟩ (setNE_ok R'.isInE), rfl, q L' c1 c2⟩
/-- pair in seen -/
def rSInSE (P : Program) (w : World) : V → V → Hp → VK → Prop := fun x y H Q => ∃ (b a : Addr) (k : List Str) (L : List (Addr × List Str)), x = .ref b ∧ y = V.ref a ∧ H a = some (SetNE P w a L) ∧ (∀ p ∈ L, TkH H p.1 p.2) ∧ TkH H b k ∧ Q (.bl (decide (k ∈ L.map (·.2)))) H
theorem or_sinE0 (hu : X.A.units + 64 < cLine) : OpR X (compareOp .In) (rSInSE X.prog X.w) := by
  intro pins s σ H x y v u Q I rx ry h
  obtain ⟨b, a, k, L, rfl, rfl, ha, hk, hb, q⟩ := h
  cases rx
  cases ry
  obtain ⟨es, ep, t, R⟩ := setNE_get I ha hk
  obtain ⟨o, ho, hex, hd⟩ := R.obj
  have ty : s.TypeIs (.ref a) "set" := ⟨o, ho, hex.1⟩
  show wpAny _ _ (do return Value.bool (← contains (.ref a) (.ref b))) _ _ s
  refine wpAny_bind ?_
  unfold contains
  try with_reducible refine wpAny_holding ?_
  refine wpAny_bind (wpAny_specialOf ty PySem.F.slot_set_contains.lookup ?_)
  rw [if_neg (by rw [beq_builtin_none]; exact Bool.false_ne_true)]
  refine wpAny_bind (wpAny_callSpecialUnlessNone?_slot (name := Str.ofString "__contains__") ty PySem.F.slot_set_contains (wpAny_call_entry PySem.F.slot_set_contains ty PySem.entry_set_contains ?_ (PySem.F.args_set_contains_2 _ _)))
  unfold Builtin.«frozenset.__contains__» Builtin.Frozenset.oneOther
  simp only [List.isEmpty_nil, bind_assoc]
  unfold Builtin.Frozenset.addrOf Builtin.Frozenset.withSetAsKey setContains
  refine wpAny_bind (wpAny_pure ?_)
  try dsimp only
  refine wpAny_bind (wpAny_pure ?_)
  try dsimp only
  refine wpAny_bind (wpAny_tryCatch (wpAny_holding (wpAny_bind ((txtK X.prog X.w).pyh (by simp; omega) (tk_is I hb) fun tn => ?_))))
  refine wpAny_bind (find_in (s := { s with toks := s.toks + tn }) R (show (txtK X.prog X.w).At s.heap k b from tk_is I hb) (by simp; omega) fun r hr => wpAny_pure ?_)
  show wpAny _ _ (ret (Value.bool r.isSome)) _ _ _
  have hr2 : r.isSome = decide (k ∈ L.map (·.2)) := hr.trans (decide_eq_decide.mpr Iff.rfl)
  rw [hr2]
  exact wpAny_pure ⟨_, rfl, wpAny_truthy_bool (wpAny_pure ⟨.bl _, H, I.tok _, rfl, q⟩)⟩
end
end CP
namespace CP
open PySem PySem.Spec PyProof.Rows L2
section
variable {X : Cx} {o e : Expr} {es : List Expr} {to : TE} {t : TA} {apos cpos : Pos}
def tSAddE (P : Program) (w : World) (to : TE) (t : TA) : TE := fun σ H Q => to σ H fun x H1 => (∃ a L, x = V.ref a ∧ H1 a = some (SetNE P w a L)) ∧ t σ H1 fun xs H2 => rSAddE P w x xs H2 Q
/-- seen.add(pair), as it is written -/
theorem pe_saddE0 (hu : X.A.units + 64 < cLine) (ho : PE X o to) (ha : PA X (e :: es) t) (hbase : attributeBase o "add" X.env (eval o X.env) = eval o X.env := by rfl)
    (hfew : ((backTo cpos (starEach (e :: es) X.env)).all (fun x => !x.1) && (backToKw cpos (keywordEach [] X.env)).all (fun x => x.1.isSome) && decide ((e :: es).length + ([] : List Keyword).length + (if ([] : List Keyword).isEmpty then 0 else 1) < 30)) = true := by rfl)
    (hline : (apos.endLine == cpos.line) = true := by rfl) (hs : starEach (e :: es) X.env = (false, eval e X.env) :: starEach es X.env := by rfl) (hplain : (backTo cpos (starEach es X.env)).any (·.1) = false := by rfl) :
    PE X (.Call (.Attribute o "add" apos) (e :: es) [] cpos) (tSAddE X.prog X.w to t) := by
  refine ⟨fun pins s σ H Q I h => wpAny_Call_method_late hbase hfew hline rfl (thn (ho.run pins s σ H _ I h) fun v s1 ⟨x, H1, I1, r1, ⟨a, L, ex, hS⟩, q1⟩ => ?_)⟩
  subst ex
  cases r1
  obtain ⟨es', ep, tb, ⟨ob, h1, h2, h3⟩, _⟩ := (I1.hok a _ hS).1
  have nd : ∀ b, Value.ref a = .ref b → ∃ o', s1.heap.get? b = some o' ∧ o'.dict = none := fun b z => by cases z; exact ⟨ob, h1, h2.2.1⟩
  refine ⟨"set", "set.add", F.plainAttrs_set, F.slot_set_add, F.type_set_add, ⟨ob, h1, h2.1⟩, nd, ?_⟩
  have hA := ha.run cpos pins s1 σ H1 _ I1 q1
  rw [hs] at hA ⊢
  refine Calls.callWith_builtin (by show (false || (backTo cpos (starEach es X.env)).any (·.1)) = false; rw [hplain]; rfl) (Calls.evalArgs_plain (thn hA fun us s2 ⟨vs, H2, I2, r2, q2⟩ => ?_))
  exact mt_saddE hu pins s2 σ H2 (.ref a) vs (.ref a) us Q I2 rfl r2 q2
end
end CP
namespace CP
open PySem PySem.Spec PyProof.Rows L2
section
variable {X : Cx} (P : Program) (w : World)
theorem cr_set0E (h1 : X.prog = P) (h2 : X.w = w) : CallR X (.type "set") (rSet0E P w) := by subst h1; subst h2; exact cr_set0E0
theorem or_sinE (h1 : X.prog = P) (h2 : X.w = w) (hu : X.A.units + 64 < cLine) : OpR X (compareOp .In) (rSInSE P w) := by subst h1; subst h2; exact or_sinE0 hu
theorem pe_saddE (h1 : X.prog = P) (h2 : X.w = w) {o e : Expr} {es : List Expr} {to : TE} {t : TA} {apos cpos : Pos} (hu : X.A.units + 64 < cLine) (ho : PE X o to) (ha : PA X (e :: es) t) (hbase : attributeBase o "add" X.env (eval o X.env) = eval o X.env := by rfl)
    (hfew : ((backTo cpos (starEach (e :: es) X.env)).all (fun x => !x.1) && (backToKw cpos (keywordEach [] X.env)).all (fun x => x.1.isSome) && decide ((e :: es).length + ([] : List Keyword).length + (if ([] : List Keyword).isEmpty then 0 else 1) < 30)) = true := by rfl)
    (hl : (apos.endLine == cpos.line) = true := by rfl) (hs : starEach (e :: es) X.env = (false, eval e X.env) :: starEach es X.env := by rfl) (hp : (backTo cpos (starEach es X.env)).any (·.1) = false := by rfl) :
    PE X (.Call (.Attribute o "add" apos) (e :: es) [] cpos) (tSAddE P w to t) := by subst h1; subst h2; exact pe_saddE0 hu ho ha hbase hfew hl hs hp
end
end CP
/-! x != y of two instances of one class that has its own __eq__ and no __ne__ -/
namespace CP
open PySem PySem.Spec PyProof.Rows PySem.SeqAt L2
section
variable {M : Model} {prog : Program} {w : World} {A : Around} {E : Value → Shared → Prop} {s : Shared} {K : PySem.W.Frag} {x C : Addr} {ox : Obj} {od : Option Obj}
theorem ifBound_objNe {args : List Value} {Q : Option Value → Shared → Prop} (X : K.In s.heap) (I : PySem.W.InstAt s.heap x ox C od) (hs : PySem.W.findIn K (.ref C) "__ne__" = some (some (.builtin "object.__ne__")))
    (h : wpAny M A (call (.builtin "object.__ne__") (.ref x :: args)) (fun v => Q (some v)) E s) : wpAny M A (callSpecialIfBound? (.ref x) "__ne__" args) Q E s := by
  simp only [callSpecialIfBound?, bindSpecialIfBound?]
  refine wpAny_holding (wpAny_bind (wpAny_bind (wpAny_bind (I.type.here ((PySem.W.looks_findIn X hs).here ?_)))))
  refine wpAny_bind (wpAny_askSetting (wpAny_ite ?_))
  have fin : wpAny M A (call (.builtin "object.__ne__") ([.ref x] ++ args) >>= fun v => pure (some v)) Q E s := wpAny_bind (wpAny_mono h (fun v s' h' => wpAny_pure h') fun _ _ h' => h')
  split
  · exact wpAny_bind (wpAny_of_eq (F.cmp_object.ne.bind _) (wpAny_pure (by exact fin)))
  · exact wpAny_tryCatch (wpAny_bind (wpAny_of_eq (F.cmp_object.ne.bind _) (wpAny_pure (by exact fin))))
theorem objNe_body {y f : Addr} (hu : A.units < cLine) (X : K.In s.heap) (I : PySem.W.InstAt s.heap x ox C od) (he : PySem.W.findIn K (.ref C) "__eq__" = some (some (.ref f))) (hf : PySem.W.isFn K (.ref f) = true) {Q : Fin → Shared → Prop}
    (hcall : wpAny M A (call (.ref f) [.ref x, .ref y]) (fun v s' => ∃ b, v = .bool b ∧ Q (.done (.ret (.bool (!b)))) s') E s) : wpAny M A (Builtin.«object.__ne__» ⟨[.ref x, .ref y], []⟩) Q E s := by
  unfold Builtin.«object.__ne__»
  repeat (first
    | with_reducible refine wpAny_cRoomFor hu ?_
    | (refine wpAny_bind (m := callSpecialIfBound? (.ref x) (Str.ofString "__eq__") [.ref y])
        (PySem.W.ifBound_K X I he hf (wpAny_mono hcall (fun r s' hr => by
          obtain ⟨b, rfl, hq⟩ := hr
          repeat (first | exact hq | exact wpAny_pure hq | exact wpAny_truthy_bool hq | (refine wpAny_bind (m := truthy (.bool _)) (wpAny_truthy_bool ?_)) | wp_step)) fun _ _ e => e)))
    | wp_step)
end
section
variable {X : Cx} {C f : Addr} {fd : FuncData} {ps : List Str} {n : Nat} {sp : Sp}
def rNeI (C : Addr) (sp : Sp) : R2 := fun x y H Q => ∃ a b dx dy fs gs, x = .ref a ∧ y = .ref b ∧ H a = some (.ins C dx fs) ∧ H b = some (.ins C dy gs) ∧ sp [.ref a, .ref b] H (fun v H' => ∃ r, v = .bl r ∧ Q (.bl (!r)) H') E0
theorem op_neI (FE : FnOk X.prog X.w X.K X.mg X.base CX0 n f fd ps sp) (hr : Room (n + 1) X.A) (he : PySem.W.findIn X.K (.ref C) "__eq__" = some (some (.ref f))) (hf : PySem.W.isFn X.K (.ref f) = true) (hn : PySem.W.findIn X.K (.ref C) "__ne__" = some (some (.builtin "object.__ne__")))
    (hb : Binds X.K fd ps []) (hm : PySem.W.mroIn X.K C (.type "object") = some true) : OpR X (compareOp .NotEq) (rNeI C sp) := by
  intro pins s σ H x y v u Q I rx ry h
  obtain ⟨a, b, dx, dy, fs, gs, rfl, rfl, ha, hb', hsp⟩ := h
  cases rx
  cases ry
  obtain ⟨mA, J, _⟩ := ins_get I.hok ha
  obtain ⟨mB, J', _⟩ := ins_get I.hok hb'
  obtain ⟨od, J, _⟩ := J.look
  obtain ⟨od', J', _⟩ := J'.look
  have hu : X.A.units + 1 < cLine := hr.in1.units0
  have hl := FE.len _ _ _ _ hsp
  have r2 : Vals [V.ref a, V.ref b] [Value.ref a, Value.ref b] := .cons rfl (.cons rfl .nil)
  have core : wpAny (model X.prog X.w) X.A.in1 (call (.ref f) [.ref a, .ref b]) (fun v s' => ∃ r, v = .bool r ∧ EP X pins σ Q (.bool (!r)) s') X.xe s := by
    refine wpAny_call (codeAny_mono (FE.run X.A.in1 X.stack s H ⟨[.ref a, .ref b], []⟩ [.ref a, .ref b] [.ref a, .ref b] _ E0 hr.in1 I.env0.in1 (by
      have := hb s [.ref a, .ref b] I.kIn (by simpa using hl)
      simpa using this) r2 hsp) fun r s' hq => ?_)
    cases r with
    | error e => exact (hq : False).elim
    | ok fl =>
      cases fl with
      | ret w =>
        obtain ⟨z, H', I', rz, r, ez, q⟩ := I.after hq
        subst ez
        cases rz
        exact ⟨r, rfl, .bl (!r), H', I', rfl, q⟩
      | next => exact False.elim hq
      | brk => exact False.elim hq
      | cont => exact False.elim hq
  show wpAny _ _ (richCompare .NotEq (.ref a) (.ref b)) _ _ s
  unfold richCompare
  simp only [oneThing_ref]
  refine wpAny_holding ?_
  refine wpAny_bind (wpAny_cRoomFor (Nat.lt_of_succ_lt hu) ?_)
  rw [cmpInfo_NotEq]
  dsimp only
  refine wpAny_bind (J.type.here ?_)
  refine wpAny_bind (J'.type.here ?_)
  rw [show (Value.ref C != Value.ref C) = false from by simp]
  simp only [Bool.false_eq_true, if_false]
  refine wpAny_bind (wpAny_pure ?_)
  simp only [Bool.false_eq_true, if_false]
  refine wpAny_bind ?_
  simp only [tryCompare]
  refine wpAny_bind (ifBound_objNe I.kIn J hn (wpAny_call (codeAny_call_builtin F.cmp_object.ne.plain F.cmpEntry_ne (PySem.W.check_slot F.cmpKind_ne F.cmpSplit_ne (J.type.andThen (PySem.W.looks_mroIn I.kIn hm)) (F.cmpArgs_ne _ _)
    (objNe_body (A := X.A.in1) hu I.kIn J he hf (wpAny_mono core (fun v s' hv => ?_) fun _ _ e => e))))))
  obtain ⟨r, rfl, hq⟩ := hv
  first | exact ⟨r, rfl, wpAny_pure (wpAny_pure hq)⟩ | exact ⟨r, rfl, wpAny_pure hq⟩ | exact ⟨r, rfl, hq⟩
end
end CP
/-! sorted(t), t a tuple: what is collected first, then as for a list -/
namespace CP
open PySem PySem.W PyProof.Rows L2
section
variable {prog : Program} {w : World} {A : Around} {E : Value → Shared → Prop} {s : Shared}
abbrev lst0 : Obj := seqObj "list" #[] 0
theorem gather_tup {t : Addr} {us : List Value} {R : List Value → Shared → Prop} (ht : s.heap.IsTuple t us.toArray) (few : us.length ≤ sizeLine)
    (k : R us { s with heap := (s.heap.push lst0).update s.heap.objs.size (Obj.mapSeq (· ++ us.toArray)) }) : wpAny (model prog w) A (collect (.ref t)) R E s := by
  obtain ⟨ot, g1, g2, m, g3⟩ := id ht
  unfold collect
  refine wpAny_bind (wpAny_runValue (codeAny_builtin entry_proto_collect' ?_))
  show wpAny _ _ (do PySem.again (.builtin "list.__iadd__" ⟨[← newList [], .ref t], []⟩)) _ _ s
  refine wpAny_bind (wpAny_newList (wpAny_pure ⟨Code.quiet_builtin _ (by decide +kernel), codeAny_builtin entry_list_iadd' ?_⟩))
  show wpAny _ _ (Builtin.List.listExtendWith (.ref s.heap.objs.size) (.ref t) (.ref s.heap.objs.size)) _ _ { s with heap := s.heap.push lst0 }
  unfold Builtin.List.listExtendWith
  have g1' : (s.heap.push lst0).get? t = some ot := Heap.get?_push_of_some _ g1
  refine wpAny_bind (wpAny_typeOf (T := "tuple") ⟨ot, g1', g2⟩ ?_)
  have tt : (Value.type "tuple" == Value.type "tuple") = true := by rfl
  rw [if_pos (by rw [tt]; simp)]
  refine wpAny_bind (listItems_at g1' g3 ?_)
  refine wpAny_bind (listItems_at (xs := #[]) (n := 0) (Heap.get?_push_size _ rfl) rfl ?_)
  rw [if_neg (by simp)]
  refine wpAny_bind (listUpdate_at (xs := #[]) (n := 0) (Heap.get?_push_size _ rfl) rfl ?_ (Nat.zero_le _) (by
    show (#[] ++ us.toArray).size ≤ sizeLine + 1
    simp only [Array.size_append, List.size_toArray, List.length_nil]; omega))
  refine wpAny_pure ?_
  refine wpAny_bind (wpAny_load (get?_update_seq (Heap.get?_push_size _ rfl) _) ?_)
  show wpAny _ _ (pure ((#[] : Array Value) ++ us.toArray).toList) R E _
  have e : ((#[] : Array Value) ++ us.toArray).toList = us := by simp
  rw [e]
  exact wpAny_pure k
end
section
variable {prog : Program} {w : World} {A : Around} {E : Value → Shared → Prop} {s : Shared} {β : Type} {enc : β → PyData} {R : Value → β → Prop} {vs : List Value} {bs : List β}
/-- sorted(t) of data -/
theorem sorted_dataT {l : Addr} {Q : Value → Shared → Prop} (hl : s.heap.IsTuple l vs.toArray) (e : EachIs R vs bs) (er : EachIs (fun v b => ∃ as, Reads s.heap v (enc b) as) vs bs) (hal : AllAlike (bs.map enc)) (hk : Sortable (bs.map enc)) (hL : bs.length ≤ sizeLine)
    (hu : ∀ b, b ∈ bs → A.units + 2 + (enc b).depth < cLine) (h : ∀ out, out.length = bs.length → EachIs R out (bs.mergeSort (dataLe false enc)) → Q (.ref (s.heap.objs.size + 1)) { s with heap := sortedAll s.heap vs (List.toArray out) }) : wpAny (model prog w) A (call (.builtin "sorted") [.ref l]) Q E s := by
  have er' : EachIs (fun v b => ∃ as, Reads (sortingHeap (copyHeap s.heap vs) (s.heap.objs.size + 1) vs) v (enc b) as) vs bs := er.mono fun _ _ ⟨as, r⟩ => ⟨as, Reads.keeps (fun _ _ => sorting_copy_old) r⟩
  have hV : vs.length ≤ sizeLine := by rw [e.length]; exact hL
  refine call_function_entry_kw kind_sorted plain_sorted entry_sorted (args_sorted1 _) ?_
  unfold Builtin.«sorted»
  refine wpAny_bind (m := checkCount "sorted" 1 1 _) (wpAny_pure ?_)
  refine wpAny_bind (gather_tup hl hV ?_)
  refine wpAny_bind (wpAny_newList ?_ hV)
  have z : ((s.heap.push lst0).update s.heap.objs.size (Obj.mapSeq (· ++ vs.toArray))).objs.size = s.heap.objs.size + 1 := by
    rw [Heap.size_update, size_push']
  show wpAny _ _ _ _ _ { s with heap := copyHeap s.heap vs }
  rw [z]
  have S := SortsAt.data (prog := prog) (w := w) (A := A.in1.in1) (s := { s with heap := sortingHeap (copyHeap s.heap vs) (s.heap.objs.size + 1) vs }) (each_map (R := fun v d => ∃ as, Reads (sortingHeap (copyHeap s.heap vs) (s.heap.objs.size + 1) vs) v d as) enc er') hal hk (bound_map hu)
  refine wpAny_bind (wpAny_holding (wpAny_call_entry_kw slot_list_sort ⟨_, copyHeap_at s.heap vs, rfl⟩ entry_list_sort (list_sort_vals (s := { s with heap := copyHeap s.heap vs }) (copyHeap_at s.heap vs) S hV ?_) (args_list_sort _)))
  exact ⟨_, rfl, wpAny_pure ⟨_, rfl, h _ (by rw [sortVals_length false rfl]; exact e.length) (sortVals_data false e er' hal)⟩⟩
end
end CP
namespace CP
open PySem L2
def top (i : Nat) : Stmt := PySem.Challenge.pw_crossparity_k39_invalid_records_to_draw.main.body.getD i (.Pass ⟨0, 0, 0, 0⟩)
abbrev sSource : Stmt := top 69
abbrev sNext : Stmt := top 70
abbrev sOne : Stmt := top 71
abbrev sMixed : Stmt := top 72
abbrev sGraph : Stmt := top 73
/-- three ints at a: a source of choices -/
def Src (H : Hp) (a : Addr) : Prop := ∃ x y z : Int, H a = some (.lst [.int x, .int y, .int z])
/-- all that stood stands, but what is at a -/
def But (a : Addr) (H H' : Hp) : Prop := ∀ b o, b ≠ a → H b = some o → H' b = some o
theorem But.refl {a : Addr} {H : Hp} : But a H H := fun _ _ _ e => e
theorem But.trans {a : Addr} {H H1 H2 : Hp} (x : But a H H1) (y : But a H1 H2) : But a H H2 := fun b o n e => y b o n (x b o n e)
theorem But.upd {a : Addr} {H : Hp} {o : HO} : But a H (L2.upd H a o) := fun b u n e => by rw [upd_ne n]; exact e
theorem But.new {a p : Addr} {H : Hp} {o : HO} (h : H p = none) : But a H (L2.upd H p o) := fun b u _ e => by rw [upd_ne (ne_of_none e h)]; exact e
theorem But.of_same {a : Addr} {H H' : Hp} (h : Same H H') : But a H H' := fun b o _ e => h b o e

def spSource : Sp := fun vs H Q _ => ∃ c : Int, vs = [.int c] ∧ ∀ p H', H p = none → Src H' p → Same H H' → Q (.ref p) H'
def spNext : Sp := fun vs H Q _ => ∃ (a : Addr) (m : Int), vs = [.ref a, .int m] ∧ Src H a ∧ 0 < m ∧ m < 1000000 ∧ ∀ (r : Int) H', 0 ≤ r → r < m → Src H' a → But a H H' → Q (.int r) H'
section
variable {P : Program} {w : World} {K : PySem.W.Frag} {mg : Str → Option Value} {base : Heap}
theorem scSource : FnScope ["_law_cell"] ["_law_cell"] (defScope sSource) := ⟨rfl, rfl, rfl, by decide +kernel, rfl, by decide +kernel, by decide +kernel⟩
theorem ok_source {f : Addr} {fd : FuncData} (F : Fun K "_law_source_of" "_law_source_of" sSource f fd) (mint : mg "int" = none) : FnOk P w K mg base CX0 1 f fd ["_law_cell"] spSource := by
  refine F.ok scSource (fun vs H Q E h => ?_) (fun cdv A outer s H vs Q E hr h => ?_)
  · obtain ⟨c, rfl, _⟩ := h; rfl
  · obtain ⟨c, rfl, k⟩ := h
    refine ⟨_, pss_cons (ps_set (i := 0) scSource.nd rfl (Or.inl rfl) (pe_ifExp (pt_cmpR op_ge (pv 0) pe_int (nomark _)) (pv 0) (pe_op op_sub (pe_op op_sub pe_int (pe_op op_mul pe_int (pv 0))) pe_int)))
      (pss_one (ps_ret (pe_lst (pa_cons (pe_op op_mul (pv 0) (pe_callTy call_int1 (by rfl) mint (by decide +kernel) (pa_cons (pe_cmpR op_ge (pv 0) (pe_op op_pow pe_int pe_int) (nomark _)) pa_nil)))
        (pa_cons (pe_op op_mod (pv 0) pe_int) (pa_cons pe_int pa_nil)))))), ?_⟩
    refine ⟨_, rfl, _, _, rfl, rfl, _, rfl, ite2 (fun _ => ⟨_, rfl, ?_⟩) (fun _ => ⟨_, rfl, _, _, rfl, rfl, .inl ⟨by decide, by decide⟩, _, _, rfl, rfl, _, _, rfl, rfl, ?_⟩)⟩
    all_goals
      refine ⟨_, rfl, _, rfl, _, _, rfl, rfl, ⟨by decide, by decide, by decide⟩, _, _, rfl, rfl, .inr ⟨_, rfl, _, _, rfl, rfl, .inr ?_, _, rfl, _, _, rfl, rfl, (show (0 : Int) < 2147483647 by decide), by show 3 ≤ sizeLine; decide, fun p hp => ?_⟩⟩
      · split <;> decide
      · exact k p _ hp ⟨_, _, _, upd_same⟩ fun b o e => by rw [upd_ne (ne_of_none e hp)]; exact e
theorem scNext : FnScope ["_law_source", "_law_many", "_law_found", "_law_prime", "_law_number"] ["_law_source", "_law_many"] (defScope sNext) := ⟨rfl, rfl, rfl, by decide +kernel, rfl, by decide +kernel, by decide +kernel⟩
theorem small_mod (n m : Int) (h : 0 < m) (h2 : m ≤ 2147483647) : -(2 ^ 64) < n % m ∧ n % m < 2 ^ 64 := by
  have a := Int.emod_nonneg n (Int.ne_of_gt h)
  have b := Int.emod_lt_of_pos n h
  omega
theorem ok_next {f : Addr} {fd : FuncData} (F : Fun K "_law_next" "_law_next" sNext f fd) : FnOk P w K mg base CX0 1 f fd ["_law_source", "_law_many"] spNext := by
  refine F.ok scNext (fun vs H Q E h => ?_) (fun cdv A outer s H vs Q E hr h => ?_)
  · obtain ⟨a, m, rfl, _⟩ := h; rfl
  · obtain ⟨a, m, rfl, ⟨x, y, z, hS⟩, h0, h1, k⟩ := h
    refine ⟨_, pss_cons (ps_if (pt_cmpR op_gt (pe_ix ix_list (pv 0) pe_int (fun _ _ => rfl)) pe_int (nomark _))
        (pss_cons (ps_set (i := 2) scNext.nd rfl (Or.inl rfl) (pe_op op_mod (pe_ix ix_list (pv 0) pe_int (fun _ _ => rfl)) (pv 1)))
        (pss_cons (ps_asg (pe_op op_fdiv (pe_ix ix_list (pv 0) pe_int (fun _ _ => rfl)) (pv 1)) (pg_sub (pv 0) pe_int set_list))
        (pss_one (ps_ret (pv 2))))) pss_nil)
      (pss_cons (ps_asg (pe_op op_add (pe_ix ix_list (pv 0) pe_int (fun _ _ => rfl)) pe_int) (pg_sub (pv 0) pe_int set_list))
      (pss_cons (ps_set (i := 3) scNext.nd rfl (Or.inl rfl) pe_int)
      (pss_cons (ps_set (i := 4) scNext.nd rfl (Or.inl rfl) (pe_op op_mod (pe_op op_add (pe_op op_add (pe_ix ix_list (pv 0) pe_int (fun _ _ => rfl)) (pe_op op_mul pe_int (pe_ix ix_list (pv 0) pe_int (fun _ _ => rfl)))) pe_int) (pv 3)))
      (pss_cons (ps_set (i := 4) scNext.nd rfl (Or.inl rfl) (pe_op op_mod (pe_op op_mul (pv 4) pe_int) (pv 3)))
      (pss_cons (ps_set (i := 4) scNext.nd rfl (Or.inl rfl) (pe_op op_mod (pe_op op_mul (pv 4) (pe_op op_add (pe_op op_fdiv (pv 4) pe_int) pe_int)) (pv 3)))
      (pss_cons (ps_set (i := 4) scNext.nd rfl (Or.inl rfl) (pe_op op_mod (pe_op op_mul (pv 4) (pe_op op_add (pe_op op_fdiv (pv 4) pe_int) pe_int)) pe_int))
      (pss_one (ps_ret (pe_op op_mod (pe_op op_fdiv (pv 4) pe_int) (pv 1)))))))))), ?_⟩
    have i0 : ∀ {x y z : Int}, atI [V.int x, V.int y, V.int z] 0 = some (.int x) := rfl
    have i1 : ∀ {x y z : Int}, atI [V.int x, V.int y, V.int z] 1 = some (.int y) := rfl
    have i2 : ∀ {x y z : Int}, atI [V.int x, V.int y, V.int z] 2 = some (.int z) := rfl
    refine ⟨_, rfl, a, _, _, _, rfl, rfl, SqL.of hS, i0, _, _, rfl, rfl, _, rfl, ite2 (fun _ => ?_) (fun _ => ?_)⟩
    · refine ⟨_, rfl, a, _, _, _, rfl, rfl, SqL.of hS, i0, _, rfl, _, _, rfl, rfl, h0, ?_⟩
      refine ⟨_, rfl, a, _, _, _, rfl, rfl, SqL.of hS, i0, _, rfl, _, _, rfl, rfl, ⟨h0, by omega⟩, _, rfl, a, _, _, 0, rfl, rfl, hS, rfl, _, rfl, ?_⟩
      exact k _ _ (Int.emod_nonneg _ (by omega)) (Int.emod_lt_of_pos _ h0) ⟨_, _, _, upd_same⟩ But.upd
    · refine ⟨_, rfl, a, _, _, _, rfl, rfl, SqL.of hS, i2, _, _, rfl, rfl, _, rfl, a, _, _, 2, rfl, rfl, hS, rfl, ?_⟩
      refine ⟨_, rfl, a, _, _, _, rfl, rfl, SqL.of upd_same, i1, _, rfl, a, _, _, _, rfl, rfl, SqL.of upd_same, i2, _, _, rfl, rfl, .inl ⟨by decide, by decide⟩, _, _, rfl, rfl, _, _, rfl, rfl, _, rfl, _, _, rfl, rfl, (show (0 : Int) < 2147483647 by decide), ?_⟩
      refine ⟨_, rfl, _, _, rfl, rfl, .inr ⟨by decide, by decide⟩, _, rfl, _, _, rfl, rfl, (show (0 : Int) < 2147483647 by decide), ?_⟩
      refine ⟨_, rfl, _, rfl, _, _, rfl, rfl, ⟨by decide, by decide⟩, _, _, rfl, rfl, _, _, rfl, rfl, .inl (small_mod _ _ (by decide) (by decide)), _, rfl, _, _, rfl, rfl, (show (0 : Int) < 2147483647 by decide), ?_⟩
      refine ⟨_, rfl, _, rfl, _, _, rfl, rfl, ⟨by decide, by decide⟩, _, _, rfl, rfl, _, _, rfl, rfl, .inl (small_mod _ _ (by decide) (by decide)), _, _, rfl, rfl, (show (0 : Int) < 2147483399 by decide), ?_⟩
      refine ⟨_, rfl, _, _, rfl, rfl, ⟨by decide, by decide⟩, _, rfl, _, _, rfl, rfl, h0, ?_⟩
      exact k _ _ (Int.emod_nonneg _ (by omega)) (Int.emod_lt_of_pos _ h0) ⟨_, _, _, upd_same⟩ But.upd
end
end CP
namespace CP
open PySem L2
def spOne (K : PySem.W.Frag) : Sp := fun vs H Q _ => ∃ (a b : Addr) (xs : List V), vs = [.ref a, .ref b] ∧ Src H a ∧ a ≠ b ∧ SqL K H b xs ∧ H b = some (.lst xs) ∧ 0 < xs.length ∧ xs.length < 100000 ∧
  ∀ x H', x ∈ xs → Src H' a → But a H H' → Q x H'
mutual
/-- a text, or a tracked tuple of such -/
inductive Tp (H : Hp) : V → PyData → Prop
  | str {z : Str} : PyData.strOk z = true → Tp H (.str z) (.str z)
  | tup {p : Addr} {xs : List V} {ds : List PyData} : H p = some (.tup xs) → TpAll H xs ds → Tp H (.ref p) (.tuple ds)
inductive TpAll (H : Hp) : List V → List PyData → Prop
  | nil : TpAll H [] []
  | cons {v : V} {vs : List V} {d : PyData} {ds : List PyData} : Tp H v d → TpAll H vs ds → TpAll H (v :: vs) (d :: ds)
end
def Item (H : Hp) (x : V) : Prop := ∃ d, Tp H x d ∧ d.depth ≤ 3
def spMixed (K : PySem.W.Frag) : Sp := fun vs H Q _ => ∃ (a b : Addr) (xs : List V), vs = [.ref a, .ref b] ∧ Src H a ∧ a ≠ b ∧ H b = some (.lst xs) ∧ (∀ x ∈ xs, Item H x) ∧ xs.length < 100000 ∧
  ∀ p ys H', ys.Perm xs → H p = none → H' p = some (.lst ys) → Src H' a → But a H H' → Q (.ref p) H'
section
variable {P : Program} {w : World} {K : PySem.W.Frag} {mg : Str → Option Value} {base : Heap}
theorem scOne : FnScope ["_law_source", "_law_some"] ["_law_source", "_law_some"] (defScope sOne) := ⟨rfl, rfl, rfl, by decide +kernel, rfl, by decide +kernel, by decide +kernel⟩
theorem ok_one {f fN : Addr} {fd fdN : FuncData} (F : Fun K "_law_one" "_law_one" sOne f fd) (mlen : mg "len" = none) (mN : mg "_law_next" = some (.ref fN)) (FN : Fun K "_law_next" "_law_next" sNext fN fdN) (bN : Binds K fdN ["_law_source", "_law_many"] []) :
    FnOk P w K mg base CX0 2 f fd ["_law_source", "_law_some"] (spOne K) := by
  have GN : FnOk P w K mg base CX0 1 fN fdN ["_law_source", "_law_many"] spNext := ok_next FN
  refine F.ok scOne (fun vs H Q E h => ?_) (fun cdv A outer s H vs Q E hr h => ?_)
  · obtain ⟨a, b, xs, rfl, _⟩ := h; rfl
  · obtain ⟨a, b, xs, rfl, hS, ab, hB, hB2, h0, h1, k⟩ := h
    refine ⟨_, pss_one (ps_ret (pe_ix ix_list (pv 1) (pe_call GN hr rfl mN FN.kp bN .nil pass0 (pa_cons (pv 0) (pa_cons (pe_callB call_len_seq (by rfl) mlen PySem.boot_len (pa_cons (pv 1) pa_nil)) pa_nil))) (fun _ _ => rfl))), ?_⟩
    refine ⟨_, rfl, _, rfl, _, rfl, b, _, rfl, .inl hB, a, _, rfl, hS, by omega, by omega, fun r H' r0 r1 S' B' => ?_⟩
    obtain ⟨j, rfl⟩ : ∃ j : Nat, r = j := ⟨r.toNat, by omega⟩
    have hj : j < xs.length := by omega
    exact ⟨b, xs, _, _, rfl, rfl, SqL.of (B' b _ ab.symm hB2), atI_nat (List.getElem?_eq_getElem hj), k _ _ (List.getElem_mem hj) S' B'⟩
theorem scMixed : FnScope ["_law_source", "_law_some", "_law_left", "_law_found"] ["_law_source", "_law_some"] (defScope sMixed) := ⟨rfl, rfl, rfl, by decide +kernel, rfl, by decide +kernel, by decide +kernel⟩
theorem erase_perm {α : Type} : ∀ {l : List α} {k : Nat} {y : α}, l[k]? = some y → (y :: l.eraseIdx k).Perm l
  | [], _, _, h => by simp at h
  | a :: l, 0, y, h => by
    obtain rfl : a = y := Option.some.inj h
    exact List.Perm.refl _
  | a :: l, k + 1, y, h => by
    have ih := erase_perm (l := l) (k := k) (y := y) h
    show (y :: a :: l.eraseIdx k).Perm (a :: l)
    exact (List.Perm.swap a y _).trans (ih.cons a)
mutual
theorem Tp.map {H H' : Hp} (s : ∀ p xs, H p = some (.tup xs) → H' p = some (.tup xs)) : ∀ {x : V} {d : PyData}, Tp H x d → Tp H' x d
  | _, _, .str h => .str h
  | _, _, .tup h a => .tup (s _ _ h) (TpAll.map s a)
theorem TpAll.map {H H' : Hp} (s : ∀ p xs, H p = some (.tup xs) → H' p = some (.tup xs)) : ∀ {xs : List V} {ds : List PyData}, TpAll H xs ds → TpAll H' xs ds
  | _, _, .nil => .nil
  | _, _, .cons h t => .cons (h.map s) (t.map s)
end
mutual
theorem Tp.dp {H : Hp} : ∀ {x : V} {d : PyData}, Tp H x d → Dp K H x d
  | _, _, .str _ => .str _
  | _, _, .tup h a => .tup (SqT.of h) (TpAll.dp a)
theorem TpAll.dp {H : Hp} : ∀ {xs : List V} {ds : List PyData}, TpAll H xs ds → DpAll K H xs ds
  | _, _, .nil => .nil
  | _, _, .cons h t => .cons h.dp t.dp
end
mutual
theorem Tp.lay {H : Hp} : ∀ {x : V} {d : PyData}, Tp H x d → d.canLay0 = true
  | _, _, .str o => by simp [PyData.canLay0, o]
  | _, _, .tup _ a => by simp [PyData.canLay0, TpAll.lay a]
theorem TpAll.lay {H : Hp} : ∀ {xs : List V} {ds : List PyData}, TpAll H xs ds → PyData.canLayAll0 ds = true
  | _, _, .nil => by simp [PyData.canLayAll0]
  | _, _, .cons h t => by simp [PyData.canLayAll0, h.lay, t.lay]
end
theorem Item.but {H H' : Hp} {a : Addr} {x : V} (S : Src H a) (B : But a H H') (h : Item H x) : Item H' x := by
  obtain ⟨d, t, e⟩ := h
  obtain ⟨x1, y1, z1, S⟩ := S
  exact ⟨d, t.map fun p xs q => B p _ (ne_of q S (fun z => by cases z)) q, e⟩
theorem Item.dp {H : Hp} {x : V} (h : Item H x) : ∃ d, Dp K H x d ∧ d.canLay0 = true ∧ d.depth ≤ 3 := by
  obtain ⟨d, t, e⟩ := h
  exact ⟨d, t.dp, t.lay, e⟩
theorem Item.txt {H : Hp} {z : Str} (o : PyData.strOk z = true) : Item H (.str z) := ⟨_, .str o, by simp [PyData.depth]⟩
theorem Item.edge {H : Hp} {p : Addr} {u v : Str} (h : H p = some (.tup [.str u, .str v])) (o1 : PyData.strOk u = true) (o2 : PyData.strOk v = true) : Item H (.ref p) := ⟨_, .tup h (.cons (.str o1) (.cons (.str o2) .nil)), by simp [PyData.depth, PyData.depthAll]⟩
theorem items_dp {H : Hp} : ∀ {xs : List V}, (∀ x ∈ xs, Item H x) → ∃ ds, DpAll K H xs ds ∧ ds.length = xs.length ∧ PyData.canLayAll0 ds = true ∧ PyData.depthAll ds ≤ 3
  | [], _ => ⟨[], .nil, rfl, by simp [PyData.canLayAll0], by simp [PyData.depthAll]⟩
  | x :: xs, h => by
    obtain ⟨d, d1, d2, d3⟩ := (h x List.mem_cons_self).dp (K := K)
    obtain ⟨ds, e1, e2, e3, e4⟩ := items_dp (xs := xs) fun y hy => h y (List.mem_cons_of_mem _ hy)
    refine ⟨d :: ds, .cons d1 e1, by simp [e2], by simp [PyData.canLayAll0, d2, e3], ?_⟩
    simp only [PyData.depthAll]; omega
theorem eqv_nil {ds : List PyData} : PyData.eqv (.list ds) (.list []) = decide (ds = []) := by
  cases ds <;> simp [PyData.eqv, PyData.eqvAll]
theorem ok_mixed {f fN : Addr} {fd fdN : FuncData} (F : Fun K "_law_mixed" "_law_mixed" sMixed f fd) (mlen : mg "len" = none) (mlist : mg "list" = none) (mN : mg "_law_next" = some (.ref fN)) (FN : Fun K "_law_next" "_law_next" sNext fN fdN) (bN : Binds K fdN ["_law_source", "_law_many"] []) :
    FnOk P w K mg base CX0 2 f fd ["_law_source", "_law_some"] (spMixed K) := by
  have GN : FnOk P w K mg base CX0 1 fN fdN ["_law_source", "_law_many"] spNext := ok_next FN
  refine F.ok scMixed (fun vs H Q E h => ?_) (fun cdv A outer s H vs Q E hr h => ?_)
  · obtain ⟨a, b, xs, rfl, _⟩ := h; rfl
  · obtain ⟨a, b, xs, rfl, hS, ab, hB, hI, h1, k⟩ := h
    have hu := hu_of hr
    refine ⟨_, pss_cons (ps_set (i := 2) scMixed.nd rfl (Or.inl rfl) (pe_callTy call_list_of (by rfl) mlist (by decide +kernel) (pa_cons (pv 1) pa_nil)))
      (pss_cons (ps_set (i := 3) scMixed.nd rfl (Or.inl rfl) (pe_lst pa_nil))
      (pss_cons (ps_while PassesOwn.never (pt_cmpR (op_neD hr.units) (pv 2) (pe_lst pa_nil) (nomark _))
        (pss_one (ps_expr (pe_bm PySem.F.plainAttrs_list PySem.F.slot_list_append PySem.F.type_list_append mt_append (pv 3) (pa_cons (pe_bm PySem.F.plainAttrs_list PySem.F.slot_list_pop PySem.F.type_list_pop mt_popAt (pv 2)
          (pa_cons (pe_call GN hr rfl mN FN.kp bN .nil pass0 (pa_cons (pv 0) (pa_cons (pe_callB call_len_seq (by rfl) mlen PySem.boot_len (pa_cons (pv 2) pa_nil)) pa_nil))) pa_nil)) pa_nil)))))
      (pss_one (ps_ret (pv 3))))), ?_⟩
    refine ⟨_, rfl, b, _, rfl, .inl (SqL.of hB), fun l hl => ?_⟩
    refine ⟨by show 0 ≤ sizeLine; decide, fun p hp => ?_⟩
    have S0 := hS
    obtain ⟨x0, y0, z0, hS0⟩ := hS
    have al : a ≠ l := ne_of_none hS0 hl
    have hl1 : L2.upd H l (.lst xs) l = some (.lst xs) := upd_same
    have ap : a ≠ p := ne_of_none (show L2.upd H l (.lst xs) a = some _ by rw [upd_ne al]; exact hS0) hp
    have lp : l ≠ p := ne_of_none hl1 hp
    have hp0 : H p = none := by rw [upd_ne lp.symm] at hp; exact hp
    have s1 : Same H (L2.upd (L2.upd H l (.lst xs)) p (.lst [])) := fun c o e => by
      rw [upd_ne (ne_of_none e hp0), upd_ne (ne_of_none e hl)]; exact e
    refine while_by (fun σ H' => ∃ left found, σ = [some (.ref a), some (.ref b), some (.ref l), some (.ref p)] ∧ H' l = some (.lst left) ∧ H' p = some (.lst found) ∧ (left ++ found).Perm xs ∧ Src H' a ∧ But a H H')
      (fun _ H' => match H' l with | some (.lst ys) => ys.length | _ => 0) ?_ ?_ ?_
    · exact ⟨xs, [], rfl, by rw [upd_ne lp]; exact upd_same, upd_same, by simp, ⟨x0, y0, z0, s1 _ _ hS0⟩, But.of_same s1⟩
    · rintro σ H' ⟨left, found, rfl, e1, e2, pm, S', B'⟩
      have lenx : left.length + found.length = xs.length := by have := pm.length_eq; rw [List.length_append] at this; exact this
      have each : ∀ x ∈ left, Item H' x := fun x hx => (hI x (pm.mem_iff.mp (List.mem_append_left _ hx))).but S0 B'
      refine ⟨_, rfl, by show 0 ≤ sizeLine; decide, fun q hq => ?_⟩
      have nq : ∀ {c : Addr} {o : HO}, H' c = some o → L2.upd H' q (.lst []) c = some o := fun e => by rw [upd_ne (ne_of_none e hq)]; exact e
      have each2 : ∀ x ∈ left, Item (L2.upd H' q (.lst [])) x := fun x hx => (each x hx).but S' (But.new hq)
      obtain ⟨ds, d1, d2, d3, d4⟩ := items_dp (K := K) each2
      refine ⟨.list ds, .list [], .lst (SqL.of (nq e1)) d1, .lst (SqL.of upd_same) .nil, ?_, by decide, _, rfl, ?_⟩
      · have c1 : (PyData.list ds).canLay0 = true := by simp [PyData.canLay0, d3]
        have c2 : (PyData.list ds).depth = PyData.depthAll ds + 1 := by first | rfl | simp [PyData.depth, Nat.add_comm]
        unfold SeqAt.shaped; rw [c1, c2]; simp; omega
      rw [eqv_nil]
      cases left with
      | nil =>
        have : ds = [] := by cases ds with | nil => rfl | cons _ _ => simp at d2
        subst this
        refine iteF ⟨_, rfl, ?_⟩
        refine k p found _ (by simpa using pm) hp0 (nq e2) ?_ (B'.trans (But.new hq))
        obtain ⟨x1, y1, z1, S'⟩ := S'
        exact ⟨x1, y1, z1, nq S'⟩
      | cons y0 left =>
        have : ds ≠ [] := by intro e; rw [e] at d2; simp at d2
        rw [decide_eq_false this]
        refine iteT ?_
        refine ⟨_, rfl, .inl ⟨rfl, _, SqL.of (nq e2)⟩, _, rfl, .inl ⟨rfl, _, SqL.of (nq e1)⟩, _, rfl, _, rfl, l, _, rfl, .inl (SqL.of (nq e1)), a, _, rfl, ?_, by first | (simp; done) | (simp; omega), by simp at lenx ⊢; omega, fun r H2 r0 r1 S2 B2 => ?_⟩
        · obtain ⟨x1, y1, z1, S'⟩ := S'
          exact ⟨x1, y1, z1, nq S'⟩
        obtain ⟨j, rfl⟩ : ∃ j : Nat, r = j := ⟨r.toNat, by omega⟩
        have hj : j < (y0 :: left).length := by simp at r1 ⊢; omega
        have e1' := B2 l _ al.symm (nq e1)
        have e2' := B2 p _ ap.symm (nq e2)
        refine ⟨l, _, _, j, _, rfl, rfl, e1', by omega, by simp at hj lenx; omega, seqIndex_of (by omega) (by omega), List.getElem?_eq_getElem hj, ?_⟩
        have e2'' : L2.upd H2 l (.lst ((y0 :: left).eraseIdx j)) p = some (.lst found) := by rw [upd_ne lp.symm]; exact e2'
        refine ⟨p, _, _, rfl, rfl, e2'', by rw [sizeLine_eq]; simp at lenx; omega, ?_⟩
        have pe := erase_perm (List.getElem?_eq_getElem hj)
        obtain ⟨x2, y2, z2, S2⟩ := S2
        refine ⟨⟨(y0 :: left).eraseIdx j, found ++ [(y0 :: left)[j]], rfl, by rw [upd_ne lp]; exact upd_same, upd_same, ?_, ⟨x2, y2, z2, by rw [upd_ne ap, upd_ne al]; exact S2⟩, fun c o n e => ?_⟩, ?_⟩
        · refine List.Perm.trans ?_ pm
          have q1 : ((y0 :: left).eraseIdx j ++ (found ++ [(y0 :: left)[j]])).Perm ((y0 :: left)[j] :: (y0 :: left).eraseIdx j ++ found) := by
            rw [← List.append_assoc]
            exact (List.perm_append_comm).trans (List.Perm.refl _)
          exact q1.trans (pe.append_right found)
        · rw [upd_ne (ne_of_none e hp0), upd_ne (ne_of_none e hl)]
          exact B2 c o n (nq (B' c o n e))
        · show (match L2.upd (L2.upd H2 l _) p _ l with | some (.lst ys) => ys.length | _ => 0) < (match H' l with | some (.lst ys) => ys.length | _ => 0)
          rw [upd_ne lp, upd_same, e1]
          show ((y0 :: left).eraseIdx j).length < (y0 :: left).length
          rw [List.length_eraseIdx_of_lt hj]; simp
    · rintro σ H' Q1 Q2 m ⟨v, ev, hz, q⟩
      exact ⟨v, ev, hz, fun p hp => let ⟨d, e, c1, c2, c3, c4, kk, ek, q⟩ := q p hp; ⟨d, e, c1, c2, c3, c4, kk, ek, m _ _ q⟩⟩
end
end CP
namespace CP
open PySem L2
abbrev sInit : Stmt := inClass (top 14) 0
abbrev sApart : Stmt := top 15
abbrev sRow : Stmt := top 17
abbrev sCouple : Stmt := top 18
abbrev sName : Stmt := top 19
abbrev sVerts : Stmt := top 20
abbrev sEdges : Stmt := top 21
abbrev sAmong : Stmt := top 22
abbrev sJoins : Stmt := top 23
/-- u < v as Python compares texts -/
def ltS (u v : Str) : Bool := decide (u.cps.toList < v.cps.toList)
def spRow : Sp := fun vs H Q _ => ∃ (a : Addr) (xs : List V), vs = [.ref a] ∧ (H a = some (.lst xs) ∨ H a = some (.tup xs)) ∧ ∀ H', Same H H' → Q (.bl true) H'
def spCouple : Sp := fun vs H Q _ => ∃ (a : Addr) (x y : V), vs = [.ref a] ∧ H a = some (.tup [x, y]) ∧ Q (.bl true) H
def spAmong (K : PySem.W.Frag) : Sp := fun vs H Q _ => ∃ (a : Addr) (ns : List Str) (z : Str), vs = [.ref a, .str z] ∧ (SqL K H a (ns.map V.str) ∨ SqT K H a (ns.map V.str)) ∧ Q (.bl (decide (z ∈ ns))) H
def spJoins (K : PySem.W.Frag) : Sp := fun vs H Q _ => ∃ (a p : Addr) (ns : List Str) (u v : Str), vs = [.ref a, .ref p] ∧ (SqL K H a (ns.map V.str) ∨ SqT K H a (ns.map V.str)) ∧ H p = some (.tup [.str u, .str v]) ∧ Q (.bl (decide (u ∈ ns) && (decide (v ∈ ns) && ltS u v))) H
def spApart : Sp := fun vs H Q _ => ∃ (p q : Addr) (u v x y : Str), vs = [.ref p, .ref q] ∧ H p = some (.tup [.str u, .str v]) ∧ H q = some (.tup [.str x, .str y]) ∧ Q (.bl (decide (u ≠ x ∧ u ≠ y ∧ v ≠ x ∧ v ≠ y))) H
section
variable {P : Program} {w : World} {K : PySem.W.Frag} {mg : Str → Option Value} {base : Heap}
theorem kit2 {K : PySem.W.Frag} {t : String} (h : t = "list" ∨ t = "tuple") : PySem.W.kitAny K (.type t) [.type "list", .type "tuple"] = some true := by
  rcases h with rfl | rfl
  · exact kitAny_cons (kit_ty (b := "list") (r := true) (by decide +kernel)) (fun z => nomatch z) (fun _ => rfl)
  · exact kitAny_cons (kit_ty (b := "list") (r := false) (by decide +kernel)) (fun _ => kitAny_cons (kit_ty (b := "tuple") (r := true) (by decide +kernel)) (fun z => nomatch z) (fun _ => rfl)) (fun z => nomatch z)
theorem scRow : FnScope ["value"] ["value"] (defScope sRow) := ⟨rfl, rfl, rfl, by decide +kernel, rfl, by decide +kernel, by decide +kernel⟩
theorem ok_row {f : Addr} {fd : FuncData} (F : Fun K "is_row" "is_row" sRow f fd) (mi : mg "isinstance" = none) (ml : mg "list" = none) (mt : mg "tuple" = none) : FnOk P w K mg base CX0 1 f fd ["value"] spRow := by
  refine F.ok scRow (fun vs H Q E h => ?_) (fun cdv A outer s H vs Q E hr h => ?_)
  · obtain ⟨a, xs, rfl, _⟩ := h; rfl
  · obtain ⟨a, xs, rfl, hA, k⟩ := h
    refine ⟨_, pss_one (ps_ret (pe_callB call_isiT (by rfl) mi (by decide +kernel) (pa_cons (pv 0) (pa_cons (pe_tup (pa_cons (pe_bltn (v := .ty "list") (by rfl) ml (by decide +kernel) rfl) (pa_cons (pe_bltn (v := .ty "tuple") (by rfl) mt (by decide +kernel) rfl) pa_nil))) pa_nil)))), ?_⟩
    refine ⟨_, rfl, by show 2 ≤ sizeLine; decide, fun t ht => ?_⟩
    have s1 : Same H (L2.upd H t (.tup [.ty "list", .ty "tuple"])) := fun c o e => by rw [upd_ne (ne_of_none e ht)]; exact e
    rcases hA with hA | hA
    · exact ⟨_, t, _, .type "list", _, true, rfl, upd_same, .cons (.ty _) (.cons (.ty _) .nil), .base (.lst (s1 _ _ hA)), kit2 (.inl rfl), k _ s1⟩
    · exact ⟨_, t, _, .type "tuple", _, true, rfl, upd_same, .cons (.ty _) (.cons (.ty _) .nil), .base (.tup (s1 _ _ hA)), kit2 (.inr rfl), k _ s1⟩
theorem scCouple : FnScope ["value"] ["value"] (defScope sCouple) := ⟨rfl, rfl, rfl, by decide +kernel, rfl, by decide +kernel, by decide +kernel⟩
theorem ok_couple {f : Addr} {fd : FuncData} (F : Fun K "is_couple" "is_couple" sCouple f fd) (mi : mg "isinstance" = none) (ml : mg "len" = none) (mt : mg "tuple" = none) : FnOk P w K mg base CX0 1 f fd ["value"] spCouple := by
  refine F.ok scCouple (fun vs H Q E h => ?_) (fun cdv A outer s H vs Q E hr h => ?_)
  · obtain ⟨a, x, y, rfl, _⟩ := h; rfl
  · obtain ⟨a, x, y, rfl, hA, k⟩ := h
    refine ⟨_, pss_one (ps_ret (pe_and (pe_callB call_isi (by rfl) mi (by decide +kernel) (pa_cons (pv 0) (pa_cons (pe_bltn (v := .ty "tuple") (by rfl) mt (by decide +kernel) rfl) pa_nil)))
      (pe_one (pe_cmpR op_eq (pe_callB call_len_seq (by rfl) ml PySem.boot_len (pa_cons (pv 0) pa_nil)) pe_int (nomark _))))), ?_⟩
    refine ⟨_, rfl, _, _, .type "tuple", _, true, rfl, .ty _, .base (.tup hA), kit_ty (by decide +kernel), _, rfl, iteT ?_⟩
    refine ⟨_, rfl, a, _, rfl, .inr (SqT.of hA), rfl, ?_⟩
    exact k
theorem scAmong : FnScope ["vertices", "value"] ["vertices", "value"] (defScope sAmong) := ⟨rfl, rfl, rfl, by decide +kernel, rfl, by decide +kernel, by decide +kernel⟩
theorem inV_txt (z : Str) (ns : List Str) : inV (.str z) (ns.map V.str) = decide (z ∈ ns) := by
  have e : inV (.str z) (ns.map V.str) = ns.any (fun n => n == z) := by
    unfold inV; rw [List.any_map]; rfl
  rw [e]
  by_cases c : z ∈ ns
  · rw [decide_eq_true c]; exact List.any_eq_true.mpr ⟨z, c, by simp⟩
  · rw [decide_eq_false c]
    cases h : ns.any (fun n => n == z) with
    | false => rfl
    | true =>
      obtain ⟨n, hn, q⟩ := List.any_eq_true.mp h
      exact absurd (by have := beq_iff_eq.mp q; rw [this] at hn; exact hn) c
theorem flat_txt (ns : List Str) : (ns.map V.str).all flatV = true := by simp [List.all_eq_true, flatV]
theorem ok_among {f : Addr} {fd : FuncData} (F : Fun K "is_among" "is_among" sAmong f fd) (mi : mg "isinstance" = none) (ms : mg "str" = none) : FnOk P w K mg base CX0 1 f fd ["vertices", "value"] (spAmong K) := by
  refine F.ok scAmong (fun vs H Q E h => ?_) (fun cdv A outer s H vs Q E hr h => ?_)
  · obtain ⟨a, ns, z, rfl, _⟩ := h; rfl
  · obtain ⟨a, ns, z, rfl, hA, k⟩ := h
    refine ⟨_, pss_one (ps_ret (pe_and (pe_callB call_isi (by rfl) mi (by decide +kernel) (pa_cons (pv 1) (pa_cons (pe_bltn (v := .ty "str") (by rfl) ms (by decide +kernel) rfl) pa_nil))) (pe_one (pe_cmpR op_in_seq (pv 1) (pv 0) rfl)))), ?_⟩
    refine ⟨_, rfl, _, _, .type "str", _, true, rfl, .ty _, .base (.str z), kit_ty (by decide +kernel), _, rfl, iteT ?_⟩
    refine ⟨_, rfl, _, rfl, a, _, rfl, hA, rfl, flat_txt ns, ?_⟩
    rw [inV_txt]; exact k
theorem scJoins : FnScope ["vertices", "value", "low", "high"] ["vertices", "value"] (defScope sJoins) := ⟨rfl, rfl, rfl, by decide +kernel, rfl, by decide +kernel, by decide +kernel⟩
theorem ok_joins {f fC fA : Addr} {fd fdC fdA : FuncData} (F : Fun K "joins" "joins" sJoins f fd) (mC : mg "is_couple" = some (.ref fC)) (FC : FnOk P w K mg base CX0 1 fC fdC ["value"] spCouple) (kC : PySem.W.keepIn K (.ref fC) = true) (bC : Binds K fdC ["value"] [])
    (mA : mg "is_among" = some (.ref fA)) (FA : FnOk P w K mg base CX0 1 fA fdA ["vertices", "value"] (spAmong K)) (kA : PySem.W.keepIn K (.ref fA) = true) (bA : Binds K fdA ["vertices", "value"] []) : FnOk P w K mg base CX0 2 f fd ["vertices", "value"] (spJoins K) := by
  refine F.ok scJoins (fun vs H Q E h => ?_) (fun cdv A outer s H vs Q E hr h => ?_)
  · obtain ⟨a, p, ns, u, v, rfl, _⟩ := h; rfl
  · obtain ⟨a, p, ns, u, v, rfl, hA, hP, k⟩ := h
    refine ⟨_, pss_cons (ps_if (pt_not (pt_val (pe_call FC hr rfl mC kC bC .nil pass0 (pa_cons (pv 1) pa_nil)))) (pss_one (ps_ret pe_bl)) pss_nil)
      (pss_cons (ps_asg (pv 1) (pg_tup rfl (pgs_cons (pg_name (i := 2) scJoins.nd rfl (Or.inl rfl)) (pgs_cons (pg_name (i := 3) scJoins.nd rfl (Or.inl rfl)) pgs_nil))))
      (pss_one (ps_ret (pe_and (pe_call FA hr rfl mA kA bA .nil pass0 (pa_cons (pv 0) (pa_cons (pv 2) pa_nil))) (pe_and (pe_call FA hr rfl mA kA bA .nil pass0 (pa_cons (pv 0) (pa_cons (pv 3) pa_nil))) (pe_one (pe_cmpR op_lt_str (pv 2) (pv 3) (nomark _)))))))), ?_⟩
    refine ⟨_, rfl, p, _, _, rfl, hP, _, rfl, iteF ?_⟩
    refine ⟨_, rfl, p, _, rfl, SqT.of hP, rfl, _, _, rfl, _, _, rfl, rfl, ?_⟩
    refine ⟨_, rfl, _, rfl, a, ns, u, rfl, hA, _, rfl, ?_⟩
    by_cases c1 : u ∈ ns
    · rw [decide_eq_true c1] at k ⊢
      refine iteT ⟨_, rfl, _, rfl, a, ns, v, rfl, hA, _, rfl, ?_⟩
      by_cases c2 : v ∈ ns
      · rw [decide_eq_true c2] at k ⊢
        exact iteT ⟨_, rfl, _, rfl, _, _, rfl, rfl, k⟩
      · rw [decide_eq_false c2] at k ⊢
        exact iteF k
    · rw [decide_eq_false c1] at k ⊢
      exact iteF k
theorem scApart : FnScope ["one", "other"] ["one", "other"] (defScope sApart) := ⟨rfl, rfl, rfl, by decide +kernel, rfl, by decide +kernel, by decide +kernel⟩
theorem ok_apart {f : Addr} {fd : FuncData} (F : Fun K "are_apart" "are_apart" sApart f fd) : FnOk P w K mg base CX0 1 f fd ["one", "other"] spApart := by
  refine F.ok scApart (fun vs H Q E h => ?_) (fun cdv A outer s H vs Q E hr h => ?_)
  · obtain ⟨p, q, u, v, x, y, rfl, _⟩ := h; rfl
  · obtain ⟨p, q, u, v, x, y, rfl, hP, hQ, k⟩ := h
    refine ⟨_, pss_one (ps_ret (pe_and (pe_cmpR op_notIn_seq (pe_ix ix_tup (pv 0) pe_int (fun _ _ => rfl)) (pv 1) rfl) (pe_one (pe_cmpR op_notIn_seq (pe_ix ix_tup (pv 0) pe_int (fun _ _ => rfl)) (pv 1) rfl)))), ?_⟩
    have two : ∀ z : Str, inV (.str z) [.str x, .str y] = decide (z ∈ [x, y]) := fun z => inV_txt z [x, y]
    refine ⟨_, rfl, p, _, _, _, rfl, rfl, SqT.of hP, (atI_nat (j := 0) rfl), _, rfl, q, _, rfl, .inr (SqT.of hQ), rfl, rfl, _, rfl, ?_⟩
    show if (!inV (.str u) [.str x, .str y]) = true then _ else _
    rw [two]
    by_cases c1 : u ∈ [x, y]
    · rw [decide_eq_true c1]
      refine iteF ?_
      have e : decide (u ≠ x ∧ u ≠ y ∧ v ≠ x ∧ v ≠ y) = false := decide_eq_false fun z => by simp at c1; rcases c1 with c | c <;> simp_all
      rw [e] at k; exact k
    · rw [decide_eq_false c1]
      refine iteT ⟨_, rfl, p, _, _, _, rfl, rfl, SqT.of hP, (atI_nat (j := 1) rfl), _, rfl, q, _, rfl, .inr (SqT.of hQ), rfl, rfl, ?_⟩
      show Q (.bl (!inV (.str v) [.str x, .str y])) _
      rw [two]
      have e : decide (u ≠ x ∧ u ≠ y ∧ v ≠ x ∧ v ≠ y) = !decide (v ∈ [x, y]) := by
        simp only [List.mem_cons, List.not_mem_nil, or_false, not_or] at c1 ⊢
        by_cases c2 : v = x <;> by_cases c3 : v = y <;> simp [c1, c2, c3]
      rw [e] at k; exact k
end
end CP
/-! rows (lists or tuples) walked -/
namespace CP
open PySem PySem.Spec PyProof.Rows L2
def RowAt (H : Hp) (a : Addr) (xs : List V) : Prop := H a = some (.lst xs) ∨ H a = some (.tup xs)
theorem RowAt.same {H H' : Hp} {a : Addr} {xs : List V} (h : RowAt H a xs) (s : Same H H') : RowAt H' a xs := h.imp (s _ _) (s _ _)
theorem RowAt.eq {H H' : Hp} {a : Addr} {xs : List V} (h : RowAt H a xs) (s : Same H H') : H' a = H a := by
  rcases h with h | h <;> rw [h, s _ _ h]
theorem RowAt.sq {K : PySem.W.Frag} {H : Hp} {a : Addr} {xs : List V} (h : RowAt H a xs) : SqL K H a xs ∨ SqT K H a xs := h.imp SqL.of SqT.of
/-- a list or a tuple walked: J gives its items -/
def iSeq (tl : TE) : TI := fun σ H R => tl σ H fun x H1 => ∃ a xs, x = .ref a ∧ RowAt H1 a xs ∧ ∀ J G, Walk J xs.length G (YAt xs) → (∀ H, H a = H1 a → G H) → R J H1
theorem pi_seq {X : Cx} {tg l : Expr} {tl : TE} (hl : PE X l tl) : PI X tg l (iSeq tl) := by
  refine ⟨fun pins s σ H R I h => ?_⟩
  refine thn (hl.run pins s σ H _ I h) fun v s1 ⟨x, H1, I1, r1, q1⟩ => ?_
  obtain ⟨a, xs, e, hrow, q⟩ := q1
  subst e
  cases r1
  rcases hrow with hq | hq
  · obtain ⟨its, rv, p, hz⟩ := I1.list (SqL.of hq)
    refine wpAny_pyIter_list p.isList ?_
    refine ⟨s1.heap.objs.size, [s1.heap.objs.size], _, _, H1, rfl, I1.kept (t' := s1.toks) fun b o e => Heap.get?_push_of_some _ e, turn_list a _, ⟨_, Heap.get?_push_size _ rfl, rfl, rfl⟩, fun b hb => ?_, q (Itl X.K a) _ walk_list fun H s => SqL.of (s.trans hq)⟩
    have e : b = s1.heap.objs.size := by simpa using hb
    subst e
    exact I1.fpOk (Nat.le_refl _) (I1.hok.fresh (Nat.le_refl _))
  · obtain ⟨its, rv, p, hz⟩ := I1.tuple (SqT.of hq)
    refine wpAny_pyIter_tuple p ?_
    refine ⟨s1.heap.objs.size, [s1.heap.objs.size], _, _, H1, rfl, I1.kept (t' := s1.toks) fun b o e => Heap.get?_push_of_some _ e, turn_tuple a _, ⟨_, Heap.get?_push_size _ rfl, rfl, rfl⟩, fun b hb => ?_, q (Itt X.K a) _ walk_tup fun H s => SqT.of (s.trans hq)⟩
    have e : b = s1.heap.objs.size := by simpa using hb
    subst e
    exact I1.fpOk (Nat.le_refl _) (I1.hok.fresh (Nat.le_refl _))
end CP
namespace CP
open PySem L2
abbrev letters : Str := "abcdefghijklmnopqrstuvwxyz"
structure NameOk (z : Str) : Prop where
  pos : 0 < z.length
  most : z.length ≤ 8
  all : ∀ c ∈ z.cps.toList, c ∈ letters.cps.toList
def spName : Sp := fun vs H Q _ => ∃ z : Str, vs = [.str z] ∧ NameOk z ∧ ∀ H', Same H H' → Q (.bl true) H'
def spVerts : Sp := fun vs H Q _ => ∃ (a : Addr) (ns : List Str), vs = [.ref a] ∧ RowAt H a (ns.map V.str) ∧ 0 < ns.length ∧ ns.length ≤ 8 ∧ ns.Nodup ∧ (∀ z ∈ ns, NameOk z) ∧ ∀ H', Same H H' → Q (.bl true) H'
/-- edges as tracked tuples: address and the two names -/
abbrev Ed := Addr × (Str × Str)
def EdAt (H : Hp) (p : Ed) : Prop := H p.1 = some (.tup [.str p.2.1, .str p.2.2])
/-- an edge between names of ns -/
def EdOk (ns : List Str) (e : Str × Str) : Prop := e.1 ∈ ns ∧ e.2 ∈ ns ∧ ltS e.1 e.2 = true
def spEdges : Sp := fun vs H Q _ => ∃ (a b : Addr) (ns : List Str) (ks : List Ed), vs = [.ref a, .ref b] ∧ RowAt H a (ns.map V.str) ∧ RowAt H b (ks.map fun p => V.ref p.1) ∧ (∀ p ∈ ks, EdAt H p) ∧ (∀ p ∈ ks, EdOk ns p.2) ∧
  (ks.map (·.2)).Nodup ∧ ks.length ≤ 18 ∧ ∀ H', Same H H' → Q (.bl true) H'
theorem Same.new {H : Hp} {p : Addr} {o : HO} (h : H p = none) : Same H (L2.upd H p o) := fun c u e => by rw [upd_ne (ne_of_none e h)]; exact e
/-- the list at D grows: what stood before D stands -/
theorem Same.grow {H H' : Hp} {D : Addr} {o : HO} (h : H D = none) (s : Same H H') : Same H (L2.upd H' D o) := fun c u e => by rw [upd_ne (ne_of_none e h)]; exact s c u e
section
variable {P : Program} {w : World} {K : PySem.W.Frag} {mg : Str → Option Value} {base : Heap}
theorem scName : FnScope ["value", "letter"] ["value"] (defScope sName) := ⟨rfl, rfl, rfl, by decide +kernel, rfl, by decide +kernel, by decide +kernel⟩
theorem ok_name {f : Addr} {fd : FuncData} {t1 t2 : Tok} (F : Fun K "is_name" "is_name" sName f fd) (mi : mg "isinstance" = none) (ms : mg "str" = none) (ml : mg "len" = none) (ma : mg "all" = none) (mL : mg "LETTERS" = some (.str letters t1)) (mN : mg "LONGEST_NAME" = some (.int 8 t2)) :
    FnOk P w K mg base CX0 1 f fd ["value"] spName := by
  refine F.ok scName (fun vs H Q E h => ?_) (fun cdv A outer s H vs Q E hr h => ?_)
  · obtain ⟨z, rfl, _⟩ := h; rfl
  · obtain ⟨z, rfl, N, k⟩ := h
    refine ⟨_, pss_cons (ps_if (PW.pt (pw_or (pt_not (pt_val (pe_callB call_isi (by rfl) mi (by decide +kernel) (pa_cons (pv 0) (pa_cons (pe_bltn (v := .ty "str") (by rfl) ms (by decide +kernel) rfl) pa_nil)))))
        (pw_or (pt_cmpR op_eq (pe_callB call_len_str (by rfl) ml PySem.boot_len (pa_cons (pv 0) pa_nil)) pe_int (nomark _)) (pw_or1 (pt_cmpR op_gt (pe_callB call_len_str (by rfl) ml PySem.boot_len (pa_cons (pv 0) pa_nil)) (pe_glob (v := .int 8) rfl mN ⟨_, rfl⟩) (nomark _))))))
        (pss_one (ps_ret pe_bl)) pss_nil)
      (pss_one (ps_ret (pe_callB (cr_all rfl) (by rfl) ma (by decide +kernel) (pa_cons (pe_lc (own := [("letter", 1)]) (g := gName 1) (tt := tYes) rfl scName.nd (pi_str (pv 0)) (blkOk_by (own := [("letter", 1)]) (N := ["value", "letter"]) (sc := defScope sName) (by decide +kernel))
        (fun _ _ _ _ _ => pg_name (i := 1) scName.nd rfl (Or.inl rfl)) (fun _ _ _ _ _ => pts_nil) (fun _ _ _ _ _ => pe_cmpR op_in_sign (pv 1) (pe_glob (v := .str letters) rfl mL ⟨_, rfl⟩) rfl)) pa_nil)))), ?_⟩
    have hz : z.length ≤ sizeLine := by have := N.most; rw [sizeLine_eq]; omega
    refine ⟨_, rfl, _, _, .type "str", _, true, rfl, .ty _, .base (.str z), kit_ty (by decide +kernel), _, rfl, iteF ?_⟩
    refine ⟨_, rfl, z, rfl, hz, rfl, _, rfl, ?_⟩
    rw [decide_eq_false (by intro e; have := N.pos; injection e with e; omega)]
    refine iteF ⟨_, rfl, z, rfl, hz, _, _, rfl, rfl, _, rfl, ?_⟩
    rw [decide_eq_false (by have := N.most; omega)]
    refine iteF ?_
    refine ⟨_, rfl, z, rfl, fun D hD => lc_it walk_str (fun i H' => H' D = some (.lst ((List.replicate i true).map V.bl)) ∧ Same H H') ⟨upd_same, Same.new hD⟩ (fun _ _ _ _ => True.intro) ?_ ?_⟩
    · rintro i x H1 H2 hi ⟨e1, s1⟩ ⟨rfl, c, hc, rfl⟩
      refine ⟨rfl, _, rfl, c, letters, rfl, rfl, _, e1, by rw [List.length_map, List.length_replicate, sizeLine_eq]; have := N.most; have e : z.cps.size = z.length := rfl; omega, ?_, Same.grow hD s1⟩
      rw [decide_eq_true (N.all c (by simpa using Array.mem_of_getElem? hc)), upd_same, List.replicate_succ', List.map_append]; rfl
    · rintro H1 ⟨e1, s1⟩
      refine ⟨D, List.replicate z.cps.size true, rfl, SqL.of e1, ?_⟩
      have e : (List.replicate z.cps.size true).all id = true := by simp
      rw [e]; exact k _ s1
theorem scVerts : FnScope ["value", "name"] ["value"] (defScope sVerts) := ⟨rfl, rfl, rfl, by decide +kernel, rfl, by decide +kernel, by decide +kernel⟩
theorem ok_verts {f fR fN : Addr} {fd fdR fdN : FuncData} {t1 : Tok} (F : Fun K "are_vertices" "are_vertices" sVerts f fd) (ml : mg "len" = none) (ma : mg "all" = none) (mset : mg "set" = none) (mM : mg "MOST_VERTICES" = some (.int 8 t1))
    (mR : mg "is_row" = some (.ref fR)) (FR : FnOk P w K mg base CX0 1 fR fdR ["value"] spRow) (kR : PySem.W.keepIn K (.ref fR) = true) (bR : Binds K fdR ["value"] [])
    (mN : mg "is_name" = some (.ref fN)) (FN : FnOk P w K mg base CX0 1 fN fdN ["value"] spName) (kN : PySem.W.keepIn K (.ref fN) = true) (bN : Binds K fdN ["value"] []) : FnOk P w K mg base CX0 2 f fd ["value"] spVerts := by
  refine F.ok scVerts (fun vs H Q E h => ?_) (fun cdv A outer s H vs Q E hr h => ?_)
  · obtain ⟨a, ns, rfl, _⟩ := h; rfl
  · obtain ⟨a, ns, rfl, hA, h0, h8, nd, each, k⟩ := h
    refine ⟨_, pss_cons (ps_if (PW.pt (pw_or (pt_not (pt_val (pe_call FR hr rfl mR kR bR .nil pass0 (pa_cons (pv 0) pa_nil))))
        (pw_or (pt_cmpR op_eq (pe_callB call_len_seq (by rfl) ml PySem.boot_len (pa_cons (pv 0) pa_nil)) pe_int (nomark _)) (pw_or1 (pt_cmpR op_gt (pe_callB call_len_seq (by rfl) ml PySem.boot_len (pa_cons (pv 0) pa_nil)) (pe_glob (v := .int 8) rfl mM ⟨_, rfl⟩) (nomark _))))))
        (pss_one (ps_ret pe_bl)) pss_nil)
      (pss_one (ps_ret (pe_and (pe_callB (cr_all rfl) (by rfl) ma (by decide +kernel) (pa_cons (pe_lc (own := [("name", 1)]) (g := gName 1) (tt := tYes) rfl scVerts.nd (pi_seq (pv 0)) (blkOk_by (own := [("name", 1)]) (N := ["value", "name"]) (sc := defScope sVerts) (by decide +kernel))
        (fun _ _ _ _ _ => pg_name (i := 1) scVerts.nd rfl (Or.inl rfl)) (fun _ _ _ _ _ => pts_nil) (fun _ _ _ _ _ => pe_call FN hr rfl mN kN bN .nil pass0 (pa_cons (pv 1) pa_nil))) pa_nil))
        (pe_one (pe_cmpR op_eq (pe_lenSetX rfl (by rfl) ml (by rfl) mset (pv 0)) (pe_callB call_len_seq (by rfl) ml PySem.boot_len (pa_cons (pv 0) pa_nil)) (nomark _)))))), ?_⟩
    refine ⟨_, rfl, a, _, rfl, hA, fun H1 s1 => ⟨_, rfl, iteF ?_⟩⟩
    have hA1 := hA.same s1
    refine ⟨_, rfl, a, _, rfl, hA1.sq, rfl, _, rfl, ?_⟩
    rw [decide_eq_false (by intro e; injection e with e; rw [List.length_map] at e; omega)]
    refine iteF ⟨_, rfl, a, _, rfl, hA1.sq, _, _, rfl, rfl, _, rfl, ?_⟩
    rw [decide_eq_false (by rw [List.length_map]; omega)]
    refine iteF ?_
    refine ⟨_, rfl, a, _, rfl, hA1, fun J GG wk hG D hD => lc_it wk (fun i H' => H' D = some (.lst ((List.replicate i true).map V.bl)) ∧ Same H1 H') ⟨upd_same, Same.new hD⟩ (fun i H' _ ⟨_, s2⟩ => hG _ (hA1.eq s2)) ?_ ?_⟩
    · rintro i x H2 H2' hi0 ⟨e1, s2⟩ ⟨rfl, hi⟩
      have li : i < ns.length := by have := (List.getElem?_eq_some_iff.mp hi).1; rw [List.length_map] at this; exact this
      rw [List.getElem?_map, List.getElem?_eq_getElem li] at hi
      obtain rfl : V.str ns[i] = x := Option.some.inj hi
      refine ⟨rfl, _, rfl, _, rfl, each _ (List.getElem_mem li), fun H3 s3 => ⟨_, s3 _ _ e1, by rw [List.length_map, List.length_replicate, sizeLine_eq]; omega, ?_, Same.grow hD (s2.trans s3)⟩⟩
      rw [upd_same, List.replicate_succ', List.map_append]; rfl
    · rintro H2 ⟨e1, s2⟩
      refine ⟨D, _, rfl, SqL.of e1, _, rfl, ?_⟩
      have e : (List.replicate (ns.map V.str).length true).all id = true := by simp
      rw [e]
      refine iteT ⟨_, rfl, a, ns, rfl, (hA1.same s2).sq, by omega, fun n _ q => ⟨_, rfl, a, _, rfl, (hA1.same s2).sq, rfl, ?_⟩⟩
      rw [q.mpr nd, decide_eq_true (by rw [List.length_map])]
      exact k _ (s1.trans s2)
theorem scEdges : FnScope ["vertices", "value", "edge"] ["vertices", "value"] (defScope sEdges) := ⟨rfl, rfl, rfl, by decide +kernel, rfl, by decide +kernel, by decide +kernel⟩
theorem ok_edges {f fR fJ : Addr} {fd fdR fdJ : FuncData} {t1 : Tok} (F : Fun K "are_edges" "are_edges" sEdges f fd) (ml : mg "len" = none) (ma : mg "all" = none) (mset : mg "set" = none) (mM : mg "MOST_EDGES" = some (.int 18 t1))
    (mR : mg "is_row" = some (.ref fR)) (FR : FnOk P w K mg base CX0 1 fR fdR ["value"] spRow) (kR : PySem.W.keepIn K (.ref fR) = true) (bR : Binds K fdR ["value"] [])
    (mJ : mg "joins" = some (.ref fJ)) (FJ : FnOk P w K mg base CX0 2 fJ fdJ ["vertices", "value"] (spJoins K)) (kJ : PySem.W.keepIn K (.ref fJ) = true) (bJ : Binds K fdJ ["vertices", "value"] []) : FnOk P w K mg base CX0 3 f fd ["vertices", "value"] spEdges := by
  refine F.ok scEdges (fun vs H Q E h => ?_) (fun cdv A outer s H vs Q E hr h => ?_)
  · obtain ⟨a, b, ns, ks, rfl, _⟩ := h; rfl
  · obtain ⟨a, b, ns, ks, rfl, hA, hB, hat, hok, nd, h18, k⟩ := h
    have hr1 : Room 1 _ := hr.mono (by decide)
    refine ⟨_, pss_cons (ps_if (PW.pt (pw_or (pt_not (pt_val (pe_call FR hr1 rfl mR kR bR .nil pass0 (pa_cons (pv 1) pa_nil))))
        (pw_or1 (pt_cmpR op_gt (pe_callB call_len_seq (by rfl) ml PySem.boot_len (pa_cons (pv 1) pa_nil)) (pe_glob (v := .int 18) rfl mM ⟨_, rfl⟩) (nomark _)))))
        (pss_one (ps_ret pe_bl)) pss_nil)
      (pss_one (ps_ret (pe_and (pe_callB (cr_all rfl) (by rfl) ma (by decide +kernel) (pa_cons (pe_lc (own := [("edge", 2)]) (g := gName 2) (tt := tYes) rfl scEdges.nd (pi_seq (pv 1)) (blkOk_by (own := [("edge", 2)]) (N := ["vertices", "value", "edge"]) (sc := defScope sEdges) (by decide +kernel))
        (fun _ _ _ _ _ => pg_name (i := 2) scEdges.nd rfl (Or.inl rfl)) (fun _ _ _ _ _ => pts_nil) (fun _ _ _ _ _ => pe_call FJ hr rfl mJ kJ bJ .nil pass0 (pa_cons (pv 0) (pa_cons (pv 2) pa_nil)))) pa_nil))
        (pe_one (pe_cmpR op_eq (pe_lenSetP rfl (by rfl) ml (by rfl) mset hr.units (pv 1)) (pe_callB call_len_seq (by rfl) ml PySem.boot_len (pa_cons (pv 1) pa_nil)) (nomark _)))))), ?_⟩
    refine ⟨_, rfl, b, _, rfl, hB, fun H1 s1 => ⟨_, rfl, iteF ?_⟩⟩
    have hA1 := hA.same s1
    have hB1 := hB.same s1
    refine ⟨_, rfl, b, _, rfl, hB1.sq, _, _, rfl, rfl, _, rfl, ?_⟩
    rw [decide_eq_false (by rw [List.length_map]; omega)]
    refine iteF ?_
    refine ⟨_, rfl, b, _, rfl, hB1, fun J GG wk hG D hD => lc_it wk (fun i H' => H' D = some (.lst ((List.replicate i true).map V.bl)) ∧ Same H1 H') ⟨upd_same, Same.new hD⟩ (fun i H' _ ⟨_, s2⟩ => hG _ (hB1.eq s2)) ?_ ?_⟩
    · rintro i x H2 H2' hi0 ⟨e1, s2⟩ ⟨rfl, hi⟩
      have li : i < ks.length := by have := (List.getElem?_eq_some_iff.mp hi).1; rw [List.length_map] at this; exact this
      rw [List.getElem?_map, List.getElem?_eq_getElem li] at hi
      obtain rfl : V.ref ks[i].1 = x := Option.some.inj hi
      have mem := List.getElem_mem li
      obtain ⟨o1, o2, o3⟩ := hok _ mem
      refine ⟨rfl, _, rfl, _, rfl, a, ks[i].1, ns, ks[i].2.1, ks[i].2.2, rfl, (hA1.same s2).sq, s2 _ _ (s1 _ _ (hat _ mem)), _, e1, by rw [List.length_map, List.length_replicate, sizeLine_eq]; omega, ?_, Same.grow hD s2⟩
      rw [upd_same, List.replicate_succ', List.map_append, decide_eq_true o1, decide_eq_true o2, o3]; rfl
    · rintro H2 ⟨e1, s2⟩
      refine ⟨D, _, rfl, SqL.of e1, _, rfl, ?_⟩
      have e : (List.replicate (ks.map fun p => V.ref p.1).length true).all id = true := by simp
      rw [e]
      refine iteT ⟨_, rfl, b, ks.map (fun p => (p.1, [p.2.1, p.2.2])), rfl, ?_, ?_, by rw [List.length_map]; omega, fun n _ q => ⟨_, rfl, b, _, rfl, (hB1.same s2).sq, rfl, ?_⟩⟩
      · rw [List.map_map]; exact (hB1.same s2).sq
      · intro p hp
        obtain ⟨p0, hp0, rfl⟩ := List.mem_map.mp hp
        exact SqT.of (s2 _ _ (s1 _ _ (hat _ hp0)))
      · have nd2 : ((ks.map (fun p => (p.1, [p.2.1, p.2.2]))).map (·.2)).Nodup := by
          rw [List.map_map]
          have : ((fun x => x.2) ∘ fun p : Ed => (p.1, [p.2.1, p.2.2])) = (fun e : Str × Str => [e.1, e.2]) ∘ (fun p : Ed => p.2) := rfl
          rw [this, ← List.map_map]
          exact List.Pairwise.map _ (fun x y h e => h (by simp at e; exact Prod.ext e.1 e.2)) nd
        rw [q.mpr nd2, decide_eq_true (by simp)]
        exact k _ (s1.trans s2)
end
end CP
namespace CP
open PySem L2
/-! ### the order of edges -/
def encE (e : Str × Str) : PyData := .tuple [.str e.1, .str e.2]
def ltE (e f : Str × Str) : Bool := if e.1 = f.1 then (if e.2 = f.2 then false else ltS e.2 f.2) else ltS e.1 f.1
theorem eqv_str (x y : Str) : PyData.eqv (.str x) (.str y) = decide (x = y) := by
  simp only [PyData.eqv]
  by_cases h : x = y
  · subst h; simp
  · simp [h]
theorem dataLt_E (e f : Str × Str) : PySem.W.dataLt (encE e) (encE f) = ltE e f := by
  unfold encE ltE ltS
  rw [PySem.W.dataLt_pair (by simp [PySem.W.alike]) (by simp [PySem.W.alike]), eqv_str, eqv_str, PySem.W.dataLt_str, PySem.W.dataLt_str]
  by_cases h1 : e.1 = f.1 <;> by_cases h2 : e.2 = f.2 <;> simp [h1, h2]
theorem str_ext {x y : Str} (h : x.cps.toList = y.cps.toList) : x = y := PySem.W.str_of_cps h
theorem ltS_irrefl (x : Str) : ltS x x = false := by unfold ltS; exact decide_eq_false (List.lt_irrefl _)
theorem ltS_asymm {x y : Str} (h : ltS x y = true) : ltS y x = false := by
  unfold ltS at *
  exact decide_eq_false fun z => List.lt_irrefl _ (List.lt_trans (of_decide_eq_true h) z)
theorem ltS_total {x y : Str} (h : x ≠ y) (h2 : ltS x y = false) : ltS y x = true := by
  unfold ltS at *
  refine decide_eq_true ?_
  have n : ¬ x.cps.toList < y.cps.toList := of_decide_eq_false h2
  have le : y.cps.toList ≤ x.cps.toList := List.not_lt.mp n
  rcases List.le_iff_lt_or_eq.mp le with l | e
  · exact l
  · exact absurd (str_ext e.symm) h
theorem ltE_irrefl (e : Str × Str) : ltE e e = false := by simp [ltE]
theorem ltE_asymm {e f : Str × Str} (h : ltE e f = true) : ltE f e = false := by
  unfold ltE at *
  by_cases h1 : e.1 = f.1
  · rw [if_pos h1] at h; rw [if_pos h1.symm]
    by_cases h2 : e.2 = f.2
    · rw [if_pos h2] at h; cases h
    · rw [if_neg h2] at h; rw [if_neg fun z => h2 z.symm]; exact ltS_asymm h
  · rw [if_neg h1] at h; rw [if_neg fun z => h1 z.symm]; exact ltS_asymm h
theorem ltE_total {e f : Str × Str} (h : e ≠ f) (h2 : ltE e f = false) : ltE f e = true := by
  unfold ltE at *
  by_cases h1 : e.1 = f.1
  · rw [if_pos h1] at h2; rw [if_pos h1.symm]
    by_cases h3 : e.2 = f.2
    · exact absurd (Prod.ext h1 h3) h
    · rw [if_neg h3] at h2; rw [if_neg fun z => h3 z.symm]; exact ltS_total h3 h2
  · rw [if_neg h1] at h2; rw [if_neg fun z => h1 z.symm]; exact ltS_total h1 h2
def leD (p q : Ed) : Bool := PySem.W.dataLe false (fun p : Ed => encE p.2) p q
theorem leD_eq (p q : Ed) : leD p q = !ltE q.2 p.2 := by
  show (!PySem.W.dataLt (encE q.2) (encE p.2)) = _
  rw [dataLt_E]
theorem leD_total : PySem.W.TotalLe leD := by
  show PySem.W.TotalLe (PySem.W.dataLe false fun p : Ed => encE p.2)
  exact PySem.W.sortLe_total _ _ _
/-- the edges in ascending order -/
def sortE (ks : List Ed) : List Ed := ks.mergeSort leD
theorem sortE_perm (ks : List Ed) : (sortE ks).Perm ks := List.mergeSort_perm ks leD
theorem sortE_lt {ks : List Ed} (nd : (ks.map (·.2)).Nodup) : (sortE ks).Pairwise (fun p q => ltE p.2 q.2 = true) := by
  have h1 := PySem.W.sort_pairwise leD_total ks
  have h2 : ((sortE ks).map (·.2)).Nodup := ((sortE_perm ks).map _).nodup_iff.mpr nd
  rw [List.nodup_iff_pairwise_ne, List.pairwise_map] at h2
  refine (h1.and h2).imp fun {p q} ⟨a, b⟩ => ?_
  rw [leD_eq] at a
  have a' : ltE q.2 p.2 = false := by simpa using a
  exact ltE_total (fun z => b z.symm) a'
/-- a sorted arrangement is the one -/
theorem asc_unique : ∀ {l m : List Ed}, l.Perm m → l.Pairwise (fun p q => ltE p.2 q.2 = true) → m.Pairwise (fun p q => ltE p.2 q.2 = true) → l = m
  | [], m, h, _, _ => h.nil_eq
  | p :: l, [], h, _, _ => absurd h.length_eq (by simp)
  | p :: l, q :: m, h, h1, h2 => by
    have e : p = q := by
      by_cases c : p = q
      · exact c
      · have a : p ∈ m := by
          have := h.mem_iff.mp (List.mem_cons_self (a := p) (l := l))
          rcases List.mem_cons.mp this with z | z
          · exact absurd z c
          · exact z
        have b : q ∈ l := by
          have := h.mem_iff.mpr (List.mem_cons_self (a := q) (l := m))
          rcases List.mem_cons.mp this with z | z
          · exact absurd z.symm c
          · exact z
        have u := (List.pairwise_cons.mp h1).1 q b
        have v := (List.pairwise_cons.mp h2).1 p a
        rw [ltE_asymm u] at v; cases v
    subst e
    rw [asc_unique (List.Perm.cons_inv h) (List.pairwise_cons.mp h1).2 (List.pairwise_cons.mp h2).2]
section
variable {X : Cx}
def rSortE : List V → Hp → VK → Prop := fun vs H Q => ∃ (a : Addr) (ks : List Ed), vs = [V.ref a] ∧ H a = some (.lst (ks.map fun p => V.ref p.1)) ∧ (∀ p ∈ ks, EdAt H p) ∧ ks.length < 1000 ∧
  ∀ p, H p = none → Q (.ref p) (L2.upd H p (.lst ((sortE ks).map fun p => V.ref p.1)))
theorem each_refs : ∀ {ks : List Ed} {us : List Value}, PySem.W.EachIs (fun v (p : Ed) => v = Value.ref p.1) us ks → us = ks.map fun p => Value.ref p.1
  | [], _, .nil => rfl
  | p :: ks, _, .cons h t => by rw [h, each_refs t]; rfl
theorem refs_each : ∀ ks : List Ed, PySem.W.EachIs (fun v (p : Ed) => v = Value.ref p.1) (ks.map fun p => Value.ref p.1) ks
  | [] => .nil
  | p :: ks => .cons rfl (refs_each ks)
theorem vals_refs : ∀ ks : List Ed, Vals (ks.map fun p => V.ref p.1) (ks.map fun p => Value.ref p.1)
  | [] => .nil
  | p :: ks => .cons rfl (vals_refs ks)
theorem dp_edge {K : PySem.W.Frag} {H : Hp} {p : Ed} (h : EdAt H p) : Dp K H (.ref p.1) (encE p.2) := .tup (SqT.of h) (.cons (.str _) (.cons (.str _) .nil))
theorem reads_each {pins : List (Addr × Obj)} {σ : L2.St} {H : Hp} {s : Shared} (I : L2.Inv X pins σ H s) : ∀ {ks : List Ed}, (∀ p ∈ ks, EdAt H p) → PySem.W.EachIs (fun v (p : Ed) => ∃ as, Reads s.heap v (encE p.2) as) (ks.map fun p => Value.ref p.1) ks
  | [], _ => .nil
  | p :: ks, h => .cons (Dp.reads I _ _ _ (dp_edge (h p List.mem_cons_self)) rfl) (reads_each I fun q hq => h q (List.mem_cons_of_mem _ hq))
theorem cr_sortE (hu : X.A.units + 64 < cLine) : CallR X (.builtin "sorted") rSortE := by
  intro pins s σ H vs us Q I r h
  obtain ⟨a, ks, rfl, hA, hat, few, k⟩ := h
  obtain ⟨its, rv, pl, _⟩ := I.list (SqL.of hA)
  rw [Vals.ref1 r]
  have ei := refs_only (κ := Str × Str) rv
  subst ei
  refine PySem.W.sorted_data (β := Ed) (R := fun v p => v = Value.ref p.1) (enc := fun p => encE p.2) pl.isList (refs_each ks) (reads_each I hat) (PySem.W.AllAlike.of fun b b' => by simp [encE, PySem.W.alike, PySem.W.alikeAll]) (PySem.W.Sortable.tuples fun b => ⟨_, _, rfl⟩) (by rw [sizeLine_eq]; omega)
    (fun b _ => by simp [encE, PyData.depth, PyData.depthAll]; omega) fun out hl e => ?_
  have eo : out = (sortE ks).map fun p => Value.ref p.1 := each_refs e
  subst eo
  obtain ⟨ep, he⟩ := PyProof.Rows.sortedAll_at s.heap (ks.map fun p => Value.ref p.1) ((sortE ks).map fun p => Value.ref p.1).toArray
  have len : ((sortE ks).map fun p => V.ref p.1).length ≤ sizeLine := by rw [List.length_map, (sortE_perm ks).length_eq, sizeLine_eq]; omega
  exact ⟨.ref _, L2.upd H (s.heap.objs.size + 1) (.lst ((sortE ks).map fun p => V.ref p.1)), I.laid (t' := s.toks) (fun _ _ => PyProof.Rows.sortedAll_old) (Nat.le_succ _) ⟨len, _, ep, vals_refs _, he⟩, rfl, k _ (I.hok.fresh (Nat.le_succ _))⟩
/-- sorted(a list or a tuple of edges) -/
def rSortER : List V → Hp → VK → Prop := fun vs H Q => ∃ (a : Addr) (ks : List Ed), vs = [V.ref a] ∧ RowAt H a (ks.map fun p => V.ref p.1) ∧ (∀ p ∈ ks, EdAt H p) ∧ ks.length < 1000 ∧
  ∀ p, H p = none → Q (.ref p) (L2.upd H p (.lst ((sortE ks).map fun p => V.ref p.1)))
theorem cr_sortER (hu : X.A.units + 64 < cLine) : CallR X (.builtin "sorted") rSortER := by
  intro pins s σ H vs us Q I r h
  obtain ⟨a, ks, rfl, hA, hat, few, k⟩ := h
  rcases hA with hA | hA
  · exact cr_sortE hu pins s σ H _ us Q I r ⟨a, ks, rfl, hA, hat, few, k⟩
  obtain ⟨its, rv, pl, _⟩ := I.tuple (SqT.of hA)
  rw [Vals.ref1 r]
  have ei := refs_only (κ := Str × Str) rv
  subst ei
  refine sorted_dataT (β := Ed) (R := fun v p => v = Value.ref p.1) (enc := fun p => encE p.2) pl (refs_each ks) (reads_each I hat) (PySem.W.AllAlike.of fun b b' => by simp [encE, PySem.W.alike, PySem.W.alikeAll]) (PySem.W.Sortable.tuples fun b => ⟨_, _, rfl⟩) (by rw [sizeLine_eq]; omega)
    (fun b _ => by simp [encE, PyData.depth, PyData.depthAll]; omega) fun out hl e => ?_
  have eo : out = (sortE ks).map fun p => Value.ref p.1 := each_refs e
  subst eo
  obtain ⟨ep, he⟩ := PyProof.Rows.sortedAll_at s.heap (ks.map fun p => Value.ref p.1) ((sortE ks).map fun p => Value.ref p.1).toArray
  have len : ((sortE ks).map fun p => V.ref p.1).length ≤ sizeLine := by rw [List.length_map, (sortE_perm ks).length_eq, sizeLine_eq]; omega
  exact ⟨.ref _, L2.upd H (s.heap.objs.size + 1) (.lst ((sortE ks).map fun p => V.ref p.1)), I.laid (t' := s.toks) (fun _ _ => PyProof.Rows.sortedAll_old) (Nat.le_succ _) ⟨len, _, ep, vals_refs _, he⟩, rfl, k _ (I.hok.fresh (Nat.le_succ _))⟩
def rLtE : R2 := fun x y H Q => ∃ p q : Ed, x = .ref p.1 ∧ y = .ref q.1 ∧ EdAt H p ∧ EdAt H q ∧ Q (.bl (ltE p.2 q.2)) H
theorem op_ltE (hu : X.A.units + 64 < cLine) : OpR X (compareOp .Lt) rLtE := by
  intro pins s σ H x y v u Q I rx ry h
  obtain ⟨p, q, rfl, rfl, hp, hq, k⟩ := h
  obtain ⟨as, r1⟩ := Dp.reads I (encE p.2) _ v (dp_edge hp) rx
  obtain ⟨bs, r2⟩ := Dp.reads I (encE q.2) _ u (dp_edge hq) ry
  have c := PySem.W.rcLt_alike (encE p.2) (encE q.2) X.A s v u as bs r1 r2 (by simp [encE, PySem.W.alike, PySem.W.alikeAll]) (by simp [encE]) (by simp [encE, PyData.depth, PyData.depthAll]; omega)
  rw [dataLt_E] at c
  exact c _ _ _ _ ⟨.bl _, H, I, rfl, k⟩
end
end CP
namespace CP
open PySem L2
open AutoSeq1 (wpAny_loadPart')
/-! ### enumerate(t), t a tuple -/
theorem new_enumT (l : Addr) (items : Array Value) (n : Nat) (dct : Option Addr) (sl : Array (Option Value)) :
    Meets (Builtin.«enumerate.__new__» ⟨[.type "enumerate", .ref l], []⟩) (fun _ R s => s.heap.get? l = some { cls := .type "tuple", dict := dct, data := .seq items n, slots := sl } ∧
      R (.ok (.ret (.ref (s.heap.push { cls := .type "tuple_iterator", data := .fields #[.ref l, .int 0 0] }).objs.size)))
        { s with heap := (s.heap.push { cls := .type "tuple_iterator", data := .fields #[.ref l, .int 0 0] }).push { cls := .type "enumerate", data := .fields #[.none, .bool false, .ref s.heap.objs.size, rawInt 0, .none, .none] } }) :=
  .of_wp fun prog w A R s h => by
    obtain ⟨hp, g, d, tk, os⟩ := s; obtain ⟨hl, h⟩ := h
    have m1 := sub_enumerate
    have hT : Heap.IsTuple (Shared.heap ⟨hp, g, d, tk, os⟩) l items := ⟨_, hl, rfl, n, rfl⟩
    wp_walk using wpAny_loadPart' hl
    refine wpAny_stack_any fun st => wpAny_pure ?_
    split
    · rename_i c _ _ _ _ _
      cases (c == Value.type "enumerate") <;> (wp_walk using wpAny_loadPart' hl, wpAny_pyIter_tuple hT; exact ⟨_, rfl, h⟩)
    · wp_walk using wpAny_loadPart' hl, wpAny_pyIter_tuple hT
      exact ⟨_, rfl, h⟩
section
variable {prog : Program} {w : World} {A : Around} {E : Value → Shared → Prop} {s : Shared}
abbrev tupIt (l : Addr) : Obj := { cls := .type "tuple_iterator", data := .fields #[.ref l, .int 0 0] }
abbrev enumOb (it : Addr) : Obj := { cls := .type "enumerate", data := .fields #[.none, .bool false, .ref it, rawInt 0, .none, .none] }
theorem call_enumT {l : Addr} {items : Array Value} {Q : Value → Shared → Prop} (hT : s.heap.IsTuple l items)
    (h : ∀ h', IsEnum h' (s.heap.objs.size + 1) s.heap.objs.size 0 .none → h'.IsTupleIter s.heap.objs.size l 0 → (∀ b o, s.heap.get? b = some o → h'.get? b = some o) → Q (.ref (s.heap.objs.size + 1)) { s with heap := h' }) :
    wpAny (model prog w) A (call (.type "enumerate") [.ref l]) Q E s := by
  obtain ⟨⟨c, dct, dt, sl⟩, hl, hc, n, hd⟩ := hT
  simp only at hc hd
  subst hc hd
  refine callType_new F.called_enumerate (by decide) (F.typeCall_enumerate_1 _) (F.newCall_enumerate_1 _) (fun obj => F.args_object_init_2 obj _) F.entry_enumerate_new (new_enumT l items n dct sl) ⟨hl, ?_⟩
  have hz : (s.heap.push (tupIt l)).objs.size = s.heap.objs.size + 1 := Heap.size_push ..
  show _ ∧ _
  rw [hz]
  have he : IsEnum ((s.heap.push (tupIt l)).push (enumOb s.heap.objs.size)) (s.heap.objs.size + 1) s.heap.objs.size 0 .none := by
    have q := Heap.get?_push_size (s.heap.push (tupIt l)) (o := enumOb s.heap.objs.size) rfl
    rw [hz] at q; exact q
  exact ⟨⟨_, he, rfl⟩, h _ he ⟨_, Heap.get?_push_of_some _ (Heap.get?_push_size _ rfl), rfl, rfl⟩ fun b o x => Heap.get?_push_of_some _ (Heap.get?_push_of_some _ x)⟩
end
def ItT (K : PySem.W.Frag) (a : Addr) : It :=
  ⟨fun i H => ∃ (xs : List V) (x : V), SqT K H a xs ∧ xs[i]? = some x, fun i H v H' => ∃ T x, v = .ref T ∧ H T = none ∧ H' = L2.upd H T (.tup [.int (i : Nat), x]) ∧ ∀ xs, SqT K H a xs → xs[i]? = some x, fun i H => ∃ xs : List V, SqT K H a xs ∧ xs.length = i⟩
theorem walk_enumT {K : PySem.W.Frag} {a : Addr} {xs : List V} : Walk (ItT K a) xs.length (fun H => SqT K H a xs) (YPair (fun i => some (.int (i : Nat))) (fun i => xs[i]?)) := by
  refine ⟨fun i _ hi q => ⟨xs, xs[i], q, by simp [hi]⟩, fun _ q => ⟨xs, q, rfl⟩, fun i H v H' _ q y => ?_⟩
  obtain ⟨T, x, h1, h2, h3, h4⟩ := y
  exact ⟨T, _, x, h1, h2, h3, rfl, h4 xs q⟩
theorem turn_enumT {P : Program} {w : World} {K : PySem.W.Frag} {elts : List Expr} {kk : Nat} {tpos : Pos} (a e it : Addr) :
    Turn P w K (.Tuple elts kk tpos) (ItT K a) [e, it] e (fun i h => (∃ old, IsEnum h e it ((i : Nat) : Int) old) ∧ h.IsTupleIter it a i ∧ e ≠ it) where
  mem := by simp
  obj := fun i h ⟨⟨old, he⟩, ⟨o, ho, hc, hd⟩, _⟩ b hb => by
    rcases (show b = e ∨ b = it by simpa using hb) with rfl | rfl
    · exact ⟨_, he, fun v q => nomatch q⟩
    · exact ⟨o, ho, fun v q => by rw [hd] at q; cases q⟩
  keep := fun i h h' ⟨⟨old, he⟩, hi, hne⟩ k => ⟨⟨old, k e (by simp) _ he⟩, hi.at fun o q => k it (by simp) o q, hne⟩
  item := by
    intro X hP hw hK hc i pins s σ H E I hf ⟨⟨old, he⟩, hit, hne⟩ ⟨xs, x, hq, hx⟩
    subst hP hw hK
    obtain ⟨its, rv, p, hz⟩ := I.tuple hq
    obtain ⟨u, hu, ru⟩ := rv.get hx
    have hel : e < s.heap.objs.size := Heap.lt_size he
    have hil : it < s.heap.objs.size := by obtain ⟨_, q, _⟩ := hit; exact Heap.lt_size q
    have ea : e ≠ a := fun z => by
      obtain ⟨o, ho, hc2, _⟩ := p
      rw [← z, he] at ho; cases ho; injection hc2 with hc2; exact absurd hc2 (by decide)
    have ia : a ≠ it := fun z => by
      obtain ⟨o, ho, hc2, _⟩ := p
      obtain ⟨o2, ho2, hc3, _⟩ := hit
      rw [z, ho2] at ho; cases ho; rw [hc3] at hc2; injection hc2 with hc2; exact absurd hc2 (by decide)
    have hiu : its.toArray[i]? = some u := by simpa using hu
    have li : i < its.toArray.size := (Array.getElem?_eq_some_iff.mp hiu).1
    refine wpAny_pyNext_enum_itemD (Draws.tuple (A := X.A.in1) (by simp [I.ok.hd hc]) it a ia its.toArray) he ⟨hit, p⟩ li hne (by simp [hne, ea]) fun x' h' tk px ho st' hT hsz hk => ?_
    obtain rfl : x' = u := Option.some.inj (px.symm.trans hiu)
    refine ⟨_, rfl, wpAny_letOwnedTupleGo_enum (s := { s with heap := h', toks := tk + 1 }) ho fun h'' he' sb => ?_⟩
    have hT2 : h''.get? s.heap.objs.size = some { cls := .type "tuple", data := .seq #[.int i tk, x'] } := (sb.2 _ (Nat.ne_of_gt hel)).trans hT
    have new : ObjOk X.prog X.w (L2.upd H s.heap.objs.size (.tup [.int (i : Nat), x])) h'' s.heap.objs.size (.tup [.int (i : Nat), x]) :=
      ⟨by show 2 ≤ sizeLine; decide, [.int i tk, x'], .cons ⟨_, rfl⟩ (.cons ru .nil), ⟨_, hT2, rfl, _, rfl⟩⟩
    have I1 : L2.Inv X pins σ (L2.upd H s.heap.objs.size (.tup [.int (i : Nat), x])) { s with heap := h'', toks := tk + 1 } :=
      I.turnedNew (ch := [e, it]) (fun b ob hb q => (sb.2 b (fun z => hb (by simp [z]))).trans (hk b ob (fun z => hb (by simp [z])) (fun z => hb (by simp [z])) q)) hf (Nat.le_refl _) new
    refine ⟨.ref s.heap.objs.size, _, I1, rfl, ⟨_, x, rfl, I.hok.fresh (Nat.le_refl _), rfl, fun ys hy => by rw [I.tuple_inj hy hq]; exact hx⟩, ⟨⟨x', ?_⟩, st'.1.at fun o q => (sb.2 it (Ne.symm hne)).trans q, hne⟩, fun b hb => ?_⟩
    · rw [show ((i + 1 : Nat) : Int) = (i : Int) + 1 by omega]; exact he'
    · have hb' : b < s.heap.objs.size := by
        rcases (show b = e ∨ b = it by simpa using hb) with rfl | rfl
        · exact hel
        · exact hil
      rw [upd_ne (Nat.ne_of_lt hb')]
      exact (hf b hb).1
  done := by
    intro X hP hw hK hc i pins s σ H E I hf ⟨⟨old, he⟩, hit, hne⟩ ⟨xs, hq, hx⟩
    subst hP hw hK
    obtain ⟨its, rv, p, hz⟩ := I.tuple hq
    obtain ⟨f0, f1, f2, f3, f4, f5⟩ := hf it (by simp)
    have hl := rv.length
    have ia : a ≠ it := fun z => by
      obtain ⟨o, ho, hc2, _⟩ := p
      obtain ⟨o2, ho2, hc3, _⟩ := hit
      rw [z, ho2] at ho; cases ho; rw [hc3] at hc2; injection hc2 with hc2; exact absurd hc2 (by decide)
    have ei : i = its.toArray.size := by rw [List.size_toArray]; omega
    rw [ei] at hit
    exact wpAny_pyNext_enum_endD (Draws.tuple (A := X.A.in1) (by simp [I.ok.hd hc]) it a ia its.toArray) he ⟨hit, p⟩ fun h' eb => ⟨rfl, I.turned (t' := s.toks) (fun b o hb q => eb b o hb q) f0 f1 f3 f4 f5⟩
  self := fun A i s Q E ⟨⟨_, he⟩, _⟩ h => wpAny_pyIter_enum he h
def iEnumT (K : PySem.W.Frag) (ta : TA) : TI := fun σ H R => ta σ H fun vs H1 => ∃ a xs, vs = [.ref a] ∧ SqT K H1 a xs ∧ R (ItT K a) H1
theorem pi_enumT {X : Cx} {e : Expr} {ta : TA} {p pos tpos : Pos} {elts : List Expr} {kk : Nat} (hg : Gl X "enumerate") (hm : X.mg "enumerate" = none) (ha : PA X [e] ta) (hs : starEach [e] X.env = [(false, eval e X.env)] := by rfl) :
    PI X (.Tuple elts kk tpos) (.Call (.Name "enumerate" p) [e] [] pos) (iEnumT X.K ta) := by
  refine ⟨fun pins s σ H R I h => ?_⟩
  refine PyProof.Rows.Call_ (ld_blt I hg hm PyProof.Rows.boot_enumerate (PyProof.Rows.callWith_type1 (thn (ha.run pos pins s σ H _ I h) fun us s1 ⟨vs, H1, I1, r1, a, xs, ex, hq, q⟩ => ?_) hs rfl))
  subst ex
  rw [Vals.ref1 r1]
  obtain ⟨its, rv, p', hz⟩ := I1.tuple hq
  refine call_enumT (items := its.toArray) p' fun h' he hit hk => wpAny_pyIter_enum he ?_
  have I2 : L2.Inv X pins σ H1 { s1 with heap := h' } := I1.kept (t' := s1.toks) hk
  refine ⟨s1.heap.objs.size + 1, [s1.heap.objs.size + 1, s1.heap.objs.size], _, _, H1, rfl, I2, turn_enumT a (s1.heap.objs.size + 1) s1.heap.objs.size, ⟨⟨.none, he⟩, hit, Nat.succ_ne_self _⟩, fun b hb => ?_, q⟩
  have hle : s1.heap.objs.size ≤ b := by
    rcases (show b = s1.heap.objs.size + 1 ∨ b = s1.heap.objs.size by simpa using hb) with z | z
    · rw [z]; exact Nat.le_add_right _ _
    · rw [z]; exact Nat.le_refl _
  exact I1.fpOk hle (I1.hok.fresh hle)
end CP
namespace CP
open PySem L2
/-! ### a Graph: its two fields -/
theorem ve : ¬ (("vertices" : Str) = "edges") := by decide +kernel
def gf (a b : Addr) : List (Str × V) := putF "edges" (.ref b) (putF "vertices" (.ref a) [])
theorem gf_eq (a b : Addr) : gf a b = ([("vertices", V.ref a), ("edges", V.ref b)] : List (Str × V)) := by
  show (if ("vertices" : Str) = "edges" then [(("vertices" : Str), V.ref b)] else (("vertices" : Str), V.ref a) :: putF "edges" (V.ref b) []) = _
  rw [if_neg ve]
  all_goals rfl
theorem gf_v (a b : Addr) : (gf a b).lookup ("vertices" : Str) = some (.ref a) := by
  unfold gf; rw [lookup_putF, if_neg ve, lookup_putF, if_pos rfl]
theorem gf_e (a b : Addr) : (gf a b).lookup ("edges" : Str) = some (.ref b) := by
  unfold gf; rw [lookup_putF, if_pos rfl]
/-- at g a Graph of the class C with these names and these edges -/
structure GrAt (C : Addr) (H : Hp) (g : Addr) (ns : List Str) (es : List Ed) : Prop where
  ob : ∃ dx t1 t2, H g = some (.ins C dx (gf t1 t2)) ∧ H t1 = some (.tup (ns.map V.str)) ∧ H t2 = some (.tup (es.map fun p => V.ref p.1))
  ed : ∀ p ∈ es, EdAt H p
theorem GrAt.same {C : Addr} {H H' : Hp} {g : Addr} {ns : List Str} {es : List Ed} (G : GrAt C H g ns es) (s : Same H H') : GrAt C H' g ns es := by
  obtain ⟨⟨dx, t1, t2, a, b, c⟩, e⟩ := G
  exact ⟨⟨dx, t1, t2, s _ _ a, s _ _ b, s _ _ c⟩, fun p hp => s _ _ (e p hp)⟩
/-- the same where each row may be a tuple -/
structure ArgsR (H : Hp) (a b : Addr) (ns : List Str) (ks : List Ed) : Prop where
  na : RowAt H a (ns.map V.str)
  n0 : 0 < ns.length
  n8 : ns.length ≤ 8
  nd : ns.Nodup
  nm : ∀ z ∈ ns, NameOk z
  ea : RowAt H b (ks.map fun p => V.ref p.1)
  ed : ∀ p ∈ ks, EdAt H p
  eo : ∀ p ∈ ks, EdOk ns p.2
  en : (ks.map (·.2)).Nodup
  el : ks.length ≤ 18
structure ArgsOk (H : Hp) (a b : Addr) (ns : List Str) (ks : List Ed) : Prop where
  na : H a = some (.lst (ns.map V.str))
  n0 : 0 < ns.length
  n8 : ns.length ≤ 8
  nd : ns.Nodup
  nm : ∀ z ∈ ns, NameOk z
  ea : H b = some (.lst (ks.map fun p => V.ref p.1))
  ed : ∀ p ∈ ks, EdAt H p
  eo : ∀ p ∈ ks, EdOk ns p.2
  en : (ks.map (·.2)).Nodup
  el : ks.length ≤ 18
theorem ArgsOk.row {H : Hp} {a b : Addr} {ns : List Str} {ks : List Ed} (A : ArgsOk H a b ns ks) : ArgsR H a b ns ks := ⟨.inl A.na, A.n0, A.n8, A.nd, A.nm, .inl A.ea, A.ed, A.eo, A.en, A.el⟩
theorem ArgsR.same {H H' : Hp} {a b : Addr} {ns : List Str} {ks : List Ed} (A : ArgsR H a b ns ks) (s : Same H H') : ArgsR H' a b ns ks := ⟨A.na.same s, A.n0, A.n8, A.nd, A.nm, A.ea.same s, fun p hp => s _ _ (A.ed p hp), A.eo, A.en, A.el⟩
def spInit (C : Addr) : Sp := fun vs H Q _ => ∃ (g dx a b : Addr) (ns : List Str) (ks : List Ed), vs = [.ref g, .ref a, .ref b] ∧ H g = some (.ins C dx []) ∧ ArgsR H a b ns ks ∧
  ∀ H', GrAt C H' g ns (sortE ks) → (∀ c o, c ≠ g → H c = some o → H' c = some o) → Q .non H'
structure GTxt (K : PySem.W.Frag) (mg : Str → Option Value) (C : Addr) : Prop where
  cl : Cls K C
  nV : NoAttr K C "vertices"
  nE : NoAttr K C "edges"
  mg : mg "Graph" = some (.ref C)
section
variable {P : Program} {w : World} {K : PySem.W.Frag} {mg : Str → Option Value} {base : Heap}
theorem scInit : FnScope ["self", "vertices", "edges"] ["self", "vertices", "edges"] (defScope sInit) := ⟨rfl, rfl, rfl, by decide +kernel, rfl, by decide +kernel, by decide +kernel⟩
/-- tuple(a list or a tuple) -/
def rTupR : List V → Hp → VK → Prop := fun xs H Q => ∃ p ys, xs = [.ref p] ∧ RowAt H p ys ∧ ∀ t H', Same H H' → H' t = some (.tup ys) → Q (.ref t) H'
theorem call_tupR {X : Cx} : CallR X (.type "tuple") rTupR := by
  intro pins s σ H xs us Q I r ⟨p, ys, e, a, k⟩
  rcases a with a | a
  · exact call_tuple_of pins s σ H xs us Q I r ⟨p, ys, e, .inl ⟨SqL.of a, fun t ht => k t _ (Same.new ht) upd_same⟩⟩
  · exact call_tuple_of pins s σ H xs us Q I r ⟨p, ys, e, .inr ⟨SqT.of a, k p H (Same.refl _) a⟩⟩
theorem ok_init {f fV fE C : Addr} {fd fdV fdE : FuncData} (F : Fun K "__init__" "Graph.__init__" sInit f fd) (T : GTxt K mg C) (mt : mg "tuple" = none) (ms : mg "sorted" = none)
    (mV : mg "are_vertices" = some (.ref fV)) (FV : FnOk P w K mg base CX0 2 fV fdV ["value"] spVerts) (kV : PySem.W.keepIn K (.ref fV) = true) (bV : Binds K fdV ["value"] [])
    (mE : mg "are_edges" = some (.ref fE)) (FE : FnOk P w K mg base CX0 3 fE fdE ["vertices", "value"] spEdges) (kE : PySem.W.keepIn K (.ref fE) = true) (bE : Binds K fdE ["vertices", "value"] []) :
    FnOk P w K mg base CX0 4 f fd ["self", "vertices", "edges"] (spInit C) := by
  refine F.ok scInit (fun vs H Q E h => ?_) (fun cdv A outer s H vs Q E hr h => ?_)
  · obtain ⟨g, dx, a, b, ns, ks, rfl, _⟩ := h; rfl
  · obtain ⟨g, dx, a, b, ns, ks, rfl, hg, ⟨na, n0, n8, nd, nm, ea, ed, eo, en, el⟩, k⟩ := h
    have hr2 : Room 2 _ := hr.mono (by decide)
    refine ⟨_, pss_cons (ps_if (pt_not (pt_val (pe_call FV hr2 rfl mV kV bV .nil pass0 (pa_cons (pv 1) pa_nil)))) pss_never pss_nil)
      (pss_cons (ps_if (pt_not (pt_val (pe_call FE hr rfl mE kE bE .nil pass0 (pa_cons (pv 1) (pa_cons (pv 2) pa_nil))))) pss_never pss_nil)
      (pss_cons (ps_fld (pv 0) (pe_callTy call_tupR (by rfl) mt (by decide +kernel) (pa_cons (pv 1) pa_nil)) rfl)
      (pss_one (ps_fld (pv 0) (pe_callTy call_tupR (by rfl) mt (by decide +kernel) (pa_cons (pe_callB (cr_sortER hr.units) (by rfl) ms (by decide +kernel) (pa_cons (pv 2) pa_nil)) pa_nil)) rfl)))), ?_⟩
    refine ⟨_, rfl, a, ns, rfl, na, n0, n8, nd, nm, fun H1 s1 => ⟨_, rfl, iteF ?_⟩⟩
    refine ⟨_, rfl, _, rfl, a, b, ns, ks, rfl, na.same s1, ea.same s1, fun p hp => s1 _ _ (ed p hp), eo, en, el, fun H2 s2 => ⟨_, rfl, iteF ?_⟩⟩
    have s12 := s1.trans s2
    refine ⟨_, rfl, a, _, rfl, na.same s12, fun t1 H3 s23 h1 => ?_⟩
    have s13 := s12.trans s23
    have g3 := s13 _ _ hg
    have gt1 : t1 ≠ g := ne_of h1 g3 (fun z => by cases z)
    refine ⟨_, rfl, g, C, dx, [], rfl, g3, T.cl, T.nV, by decide, ?_⟩
    have g4 : L2.upd H3 g (.ins C dx (putF "vertices" (.ref t1) [])) g = some (.ins C dx (putF "vertices" (.ref t1) [])) := upd_same
    have t4 : L2.upd H3 g (.ins C dx (putF "vertices" (.ref t1) [])) t1 = some (.tup (ns.map V.str)) := by rw [upd_ne gt1]; exact h1
    have old4 : ∀ {c : Addr} {o : HO}, c ≠ g → H c = some o → L2.upd H3 g (.ins C dx (putF "vertices" (.ref t1) [])) c = some o := fun n e => by rw [upd_ne n]; exact s13 _ _ e
    generalize L2.upd H3 g (.ins C dx (putF "vertices" (.ref t1) [])) = H4 at g4 t4 old4 ⊢
    have nin : ∀ {c : Addr} {xs : List V}, H c = some (.lst xs) → c ≠ g := fun e => ne_of e hg (fun z => by cases z)
    have nit : ∀ {c : Addr} {xs : List V}, H c = some (.tup xs) → c ≠ g := fun e => ne_of e hg (fun z => by cases z)
    have ea4 : RowAt H4 b (ks.map fun p => V.ref p.1) := ea.imp (fun e => old4 (nin e) e) (fun e => old4 (nit e) e)
    refine ⟨_, rfl, b, ks, rfl, ea4, fun p hp => old4 (nit (ed p hp)) (ed p hp), by omega, fun l hl => ?_⟩
    have s45 : Same H4 (L2.upd H4 l (.lst ((sortE ks).map fun p => V.ref p.1))) := Same.new hl
    have e5 : L2.upd H4 l (.lst ((sortE ks).map fun p => V.ref p.1)) l = some (.lst ((sortE ks).map fun p => V.ref p.1)) := upd_same
    generalize L2.upd H4 l (.lst ((sortE ks).map fun p => V.ref p.1)) = H5 at s45 e5 ⊢
    refine ⟨l, _, rfl, .inl e5, fun t2 H6 s56 h2 => ?_⟩
    have s46 := s45.trans s56
    have g6 := s46 _ _ g4
    have gt2 : t2 ≠ g := ne_of h2 g6 (fun z => by cases z)
    refine ⟨_, rfl, g, C, dx, _, rfl, g6, T.cl, T.nE, (by show 1 < 1000; decide), ?_⟩
    have all : ∀ {c : Addr} {o : HO}, c ≠ g → H c = some o → L2.upd H6 g (.ins C dx (putF "edges" (.ref t2) (putF "vertices" (.ref t1) []))) c = some o := fun {c o} n e => by
      rw [upd_ne n]; exact s46 _ _ (old4 n e)
    refine k _ ⟨⟨dx, t1, t2, upd_same, ?_, ?_⟩, fun p hp => all (nit (ed p ((sortE_perm ks).mem_iff.mp hp))) (ed p ((sortE_perm ks).mem_iff.mp hp))⟩ fun c o n e => all n e
    · rw [upd_ne gt1]; exact s46 _ _ t4
    · rw [upd_ne gt2]; exact h2
end
end CP
namespace CP
open PySem L2
abbrev E2 := Str × Str
/-- no common end -/
def apB (e f : E2) : Bool := decide (e.1 ≠ f.1 ∧ e.1 ≠ f.2 ∧ e.2 ≠ f.1 ∧ e.2 ≠ f.2)
/-- the pairs of the i-th edge and the later ones -/
def rowP (es : List E2) (i : Nat) : List (E2 × E2) := match es[i]? with
  | none => []
  | some e => ((es.drop (i + 1)).filter (apB e)).map fun f => (e, f)
/-- the rows of the first n edges -/
def upTo (r : Nat → List (E2 × E2)) : Nat → List (E2 × E2)
  | 0 => []
  | n + 1 => upTo r n ++ r n
def pairsOf (es : List E2) : List (E2 × E2) := upTo (rowP es) es.length
/-- a pair as a tracked tuple of two tracked edges -/
abbrev Pr := Addr × (Ed × Ed)
structure PrAt (H : Hp) (q : Pr) : Prop where
  ob : H q.1 = some (.tup [.ref q.2.1.1, .ref q.2.2.1])
  one : EdAt H q.2.1
  two : EdAt H q.2.2
theorem PrAt.same {H H' : Hp} {q : Pr} (h : PrAt H q) (s : Same H H') : PrAt H' q := ⟨s _ _ h.ob, s _ _ h.one, s _ _ h.two⟩
def prV (q : Pr) : E2 × E2 := (q.2.1.2, q.2.2.2)
/-- at l a list of pairs worth ps -/
def PrsAt (H : Hp) (l : Addr) (ps : List (E2 × E2)) : Prop := ∃ qs : List Pr, H l = some (.lst (qs.map fun q => V.ref q.1)) ∧ (∀ q ∈ qs, PrAt H q) ∧ qs.map prV = ps
theorem PrsAt.nil {H : Hp} {l : Addr} (h : H l = some (.lst [])) : PrsAt H l [] := ⟨[], h, (fun _ z => nomatch z), rfl⟩
/-- the list at l is the one thing that may have changed -/
theorem PrsAt.kept {H H' : Hp} {l : Addr} {ps : List (E2 × E2)} (h : PrsAt H l ps) (s : Same H H') : PrsAt H' l ps := by
  obtain ⟨qs, a, b, c⟩ := h
  exact ⟨qs, s _ _ a, fun q hq => (b q hq).same s, c⟩
theorem EdAt.keepL {H : Hp} {l : Addr} {xs : List V} {o : HO} {p : Ed} (hl : H l = some (.lst xs)) (h : EdAt H p) : EdAt (L2.upd H l o) p := by
  unfold EdAt; rw [upd_ne (ne_of h hl (fun z => by cases z))]; exact h
theorem PrAt.keepL {H : Hp} {l : Addr} {xs : List V} {o : HO} {q : Pr} (hl : H l = some (.lst xs)) (h : PrAt H q) : PrAt (L2.upd H l o) q :=
  ⟨by rw [upd_ne (ne_of h.ob hl (fun z => by cases z))]; exact h.ob, h.one.keepL hl, h.two.keepL hl⟩
/-- one more pair: its tuple at t is new -/
theorem PrsAt.push {H : Hp} {l t : Addr} {ps : List (E2 × E2)} {p q : Ed} (h : PrsAt H l ps) (ht : H t = some (.tup [.ref p.1, .ref q.1])) (hp : EdAt H p) (hq : EdAt H q) : ∃ qs : List V, H l = some (.lst qs) ∧ qs.length = ps.length ∧ PrsAt (L2.upd H l (.lst (qs ++ [.ref t]))) l (ps ++ [(p.2, q.2)]) := by
  obtain ⟨qs, a, b, c⟩ := h
  refine ⟨_, a, by rw [List.length_map, ← c, List.length_map], qs ++ [(t, p, q)], ?_, fun r hr => ?_, ?_⟩
  · rw [upd_same, List.map_append]; rfl
  · rcases List.mem_append.mp hr with hr | hr
    · exact (b r hr).keepL a
    · rw [List.mem_singleton.mp hr]; exact PrAt.keepL a ⟨ht, hp, hq⟩
  · rw [List.map_append, c]; rfl
theorem cut_drop (xs : List V) (i : Nat) : cutV xs (some ((i : Int) + 1)) none = xs.drop (i + 1) := by
  have e : ((i : Int) + 1) = ((i + 1 : Nat) : Int) := by omega
  unfold cutV
  rw [e, HT.sIx_nat, HT.sIx_none]
  by_cases c : i + 1 ≤ xs.length
  · rw [Nat.min_eq_left c, List.take_of_length_le (by rw [List.length_drop]; exact Nat.le_refl _)]
  · rw [Nat.min_eq_right (by omega), List.drop_of_length_le (by omega : xs.length ≤ i + 1), List.drop_length]; simp
theorem row_len (es : List E2) (i : Nat) : (rowP es i).length ≤ es.length := by
  unfold rowP
  cases es[i]? with
  | none => exact Nat.zero_le _
  | some e =>
    show (((es.drop (i + 1)).filter (apB e)).map fun f => (e, f)).length ≤ _
    rw [List.length_map]
    exact Nat.le_trans (List.length_filter_le _ _) (by rw [List.length_drop]; omega)
theorem upTo_len {r : Nat → List (E2 × E2)} {m : Nat} (h : ∀ i, (r i).length ≤ m) : ∀ n, (upTo r n).length ≤ n * m
  | 0 => Nat.zero_le _
  | n + 1 => by
    show (upTo r n ++ r n).length ≤ _
    rw [List.length_append, Nat.succ_mul]
    exact Nat.add_le_add (upTo_len h n) (h n)
end CP
namespace CP
open PySem L2
theorem perm_map {α β : Type} {f : α → β} {l m : List β} (h : l.Perm m) : ∀ ks : List α, m = ks.map f → ∃ js : List α, js.Perm ks ∧ js.map f = l := by
  induction h with
  | nil => intro ks e; cases ks with | nil => exact ⟨[], .refl _, rfl⟩ | cons _ _ => cases e
  | @cons x l1 l2 _ ih =>
    intro ks e
    cases ks with
    | nil => cases e
    | cons k ks =>
      injection e with e1 e2
      obtain ⟨js, p, q⟩ := ih ks e2
      exact ⟨k :: js, p.cons k, by rw [List.map_cons, q, e1]⟩
  | swap x y l =>
    intro ks e
    match ks, e with
    | a :: b :: ks, e =>
      injection e with e1 e2; injection e2 with e2 e3
      exact ⟨b :: a :: ks, List.Perm.swap _ _ _, by rw [List.map_cons, List.map_cons, e1, e2, e3]⟩
    | [a], e => simp at e
    | [], e => simp at e
  | trans _ _ ih1 ih2 =>
    intro ks e
    obtain ⟨js, p, q⟩ := ih2 ks e
    obtain ⟨is, p2, q2⟩ := ih1 js q.symm
    exact ⟨is, p2.trans p, q2⟩
def base8 : List Str := ["a", "ab", "b", "x", "zzzzzzzz", "node", "k", "c"]
theorem base8_nd : base8.Nodup := by decide +kernel
instance (z : Str) : Decidable (NameOk z) := decidable_of_iff (0 < z.length ∧ z.length ≤ 8 ∧ ∀ c ∈ z.cps.toList, c ∈ letters.cps.toList) ⟨fun ⟨a, b, c⟩ => ⟨a, b, c⟩, fun ⟨a, b, c⟩ => ⟨a, b, c⟩⟩
theorem base8_ok : ∀ z ∈ base8, NameOk z := by decide +kernel
theorem letters_small : ∀ c ∈ letters.cps.toList, c < 0x110000 := by decide +kernel
theorem NameOk.strOk {z : Str} (h : NameOk z) : PyData.strOk z = true := by
  unfold PyData.strOk
  rw [← Array.all_toList, List.all_eq_true]
  intro c hc
  simpa using letters_small c (h.all c hc)
/-- the edges of one name -/
def rowE (ns : List Str) (i : Nat) : List E2 := match ns[i]? with
  | none => []
  | some n => (ns.filter (ltS n)).map fun m => (n, m)
def upE (r : Nat → List E2) : Nat → List E2
  | 0 => []
  | n + 1 => upE r n ++ r n
theorem rowE_mem {ns : List Str} {i : Nat} {e : E2} (h : e ∈ rowE ns i) : ns[i]? = some e.1 ∧ e.2 ∈ ns ∧ ltS e.1 e.2 = true := by
  unfold rowE at h
  cases q : ns[i]? with
  | none => rw [q] at h; cases h
  | some n =>
    rw [q] at h
    obtain ⟨m, hm, rfl⟩ := List.mem_map.mp h
    exact ⟨rfl, (List.mem_filter.mp hm).1, (List.mem_filter.mp hm).2⟩
theorem upE_mem {ns : List Str} : ∀ {n : Nat} {e : E2}, e ∈ upE (rowE ns) n → ∃ i, i < n ∧ e ∈ rowE ns i
  | 0, e, h => nomatch h
  | n + 1, e, h => by
    rcases List.mem_append.mp h with h | h
    · obtain ⟨i, a, b⟩ := upE_mem h; exact ⟨i, by omega, b⟩
    · exact ⟨n, by omega, h⟩
theorem upE_ok {ns : List Str} {n : Nat} {e : E2} (h : e ∈ upE (rowE ns) n) : EdOk ns e := by
  obtain ⟨i, _, h⟩ := upE_mem h
  obtain ⟨a, b, c⟩ := rowE_mem h
  exact ⟨List.mem_of_getElem? a, b, c⟩
theorem nodup_ne {α : Type} {l : List α} (nd : l.Nodup) {i j : Nat} {x : α} (hi : l[i]? = some x) (hj : l[j]? = some x) : i = j := by
  obtain ⟨a, e1⟩ := List.getElem?_eq_some_iff.mp hi
  obtain ⟨b, e2⟩ := List.getElem?_eq_some_iff.mp hj
  rcases Nat.lt_trichotomy i j with c | c | c
  · exact absurd (e1.trans e2.symm) ((List.pairwise_iff_getElem.mp nd) i j a b c)
  · exact c
  · exact absurd (e2.trans e1.symm) ((List.pairwise_iff_getElem.mp nd) j i b a c)
theorem rowE_nd {ns : List Str} (nd : ns.Nodup) (i : Nat) : (rowE ns i).Nodup := by
  unfold rowE
  cases ns[i]? with
  | none => exact List.nodup_nil
  | some n => exact List.Pairwise.map _ (fun x y h e => h (by injection e)) (nd.filter _)
theorem upE_nd {ns : List Str} (nd : ns.Nodup) : ∀ n, (upE (rowE ns) n).Nodup
  | 0 => List.nodup_nil
  | n + 1 => by
    refine List.nodup_append.mpr ⟨upE_nd nd n, rowE_nd nd n, fun x hx y hy e => ?_⟩
    subst e
    obtain ⟨i, hi, h⟩ := upE_mem hx
    have := nodup_ne nd (rowE_mem h).1 (rowE_mem hy).1
    omega
theorem rowE_len (ns : List Str) (i : Nat) : (rowE ns i).length ≤ ns.length := by
  unfold rowE
  cases ns[i]? with
  | none => exact Nat.zero_le _
  | some n => show ((ns.filter (ltS n)).map _).length ≤ _; rw [List.length_map]; exact List.length_filter_le _ _
theorem upE_len {r : Nat → List E2} {m : Nat} (h : ∀ i, (r i).length ≤ m) : ∀ n, (upE r n).length ≤ n * m
  | 0 => Nat.zero_le _
  | n + 1 => by
    show (upE r n ++ r n).length ≤ _
    rw [List.length_append, Nat.succ_mul]
    exact Nat.add_le_add (upE_len h n) (h n)
/-- at l a list of edges worth es -/
def EdsAt (H : Hp) (l : Addr) (es : List E2) : Prop := ∃ ks : List Ed, H l = some (.lst (ks.map fun p => V.ref p.1)) ∧ (∀ p ∈ ks, EdAt H p) ∧ ks.map (·.2) = es
theorem EdsAt.kept {H H' : Hp} {l : Addr} {es : List E2} (h : EdsAt H l es) (s : Same H H') : EdsAt H' l es := by
  obtain ⟨ks, a, b, c⟩ := h
  exact ⟨ks, s _ _ a, fun p hp => s _ _ (b p hp), c⟩
theorem EdsAt.push {H : Hp} {l t : Addr} {es : List E2} {u v : Str} (h : EdsAt H l es) (ht : H t = some (.tup [.str u, .str v])) : ∃ zs : List V, H l = some (.lst zs) ∧ zs.length = es.length ∧ EdsAt (L2.upd H l (.lst (zs ++ [.ref t]))) l (es ++ [(u, v)]) := by
  obtain ⟨ks, a, b, c⟩ := h
  refine ⟨_, a, by rw [List.length_map, ← c, List.length_map], ks ++ [(t, u, v)], ?_, fun p hp => ?_, ?_⟩
  · rw [upd_same, List.map_append]; rfl
  · rcases List.mem_append.mp hp with hp | hp
    · exact (b p hp).keepL a
    · rw [List.mem_singleton.mp hp]; exact EdAt.keepL a ht
  · rw [List.map_append, c]; rfl
/-- l.extend(m) -/
theorem EdsAt.ext {H : Hp} {l m : Addr} {es fs : List E2} (h : EdsAt H l es) (hm : EdsAt H m fs) : ∃ zs ys : List V, H l = some (.lst zs) ∧ H m = some (.lst ys) ∧ zs.length = es.length ∧ ys.length = fs.length ∧ EdsAt (L2.upd H l (.lst (zs ++ ys))) l (es ++ fs) := by
  obtain ⟨ks, a, b, c⟩ := h
  obtain ⟨js, a2, b2, c2⟩ := hm
  refine ⟨_, _, a, a2, by rw [List.length_map, ← c, List.length_map], by rw [List.length_map, ← c2, List.length_map], ks ++ js, ?_, fun p hp => ?_, ?_⟩
  · rw [upd_same, List.map_append]
  · rcases List.mem_append.mp hp with hp | hp
    · exact (b p hp).keepL a
    · exact (b2 p hp).keepL a
  · rw [List.map_append, c, c2]
end CP
namespace CP
open PySem L2
def spGraph : Sp := fun vs H Q _ => ∃ (a : Addr) (mo : Int), vs = [.ref a, .int mo] ∧ 0 < mo ∧ mo ≤ 8 ∧ Src H a ∧
  ∀ p n e ns ks H', H' p = some (.tup [.ref n, .ref e]) → ArgsOk H' n e ns ks → (∀ z ∈ ns, z ∈ base8) → H n = none → H e = none → Src H' a → But a H H' → Q (.ref p) H'
theorem cut_take (xs : List V) (m : Int) (h : 0 ≤ m) : cutV xs none (some m) = xs.take m.toNat := by
  obtain ⟨k, rfl⟩ : ∃ k : Nat, m = k := ⟨m.toNat, by omega⟩
  unfold cutV
  rw [HT.sIx_nat, HT.sIx_none, List.drop_zero, Nat.sub_zero, Int.toNat_natCast]
  by_cases c : k ≤ xs.length
  · rw [Nat.min_eq_left c]
  · rw [Nat.min_eq_right (by omega), List.take_length, List.take_of_length_le (by omega)]
theorem But.none {a b : Addr} {H H' : Hp} (B : But a H H') (n : b ≠ a) (h : H' b = none) : H b = none := by
  cases e : H b with
  | none => rfl
  | some o => rw [B b o n e] at h; cases h
theorem Src.but {a : Addr} {H H' : Hp} (S : Src H a) (s : Same H H') : Src H' a := by
  obtain ⟨x, y, z, e⟩ := S; exact ⟨x, y, z, s _ _ e⟩
theorem Src.ne {a b : Addr} {H : Hp} (S : Src H a) (h : H b = none) : b ≠ a := fun e => by
  obtain ⟨x, y, z, q⟩ := S
  rw [e, q] at h; cases h
theorem EdAt.but {a : Addr} {H H' : Hp} {p : Ed} (S : Src H a) (B : But a H H') (h : EdAt H p) : EdAt H' p := by
  obtain ⟨x, y, z, e⟩ := S
  exact B _ _ (ne_of h e (fun z => by cases z)) h
section
variable {P : Program} {w : World} {K : PySem.W.Frag} {mg : Str → Option Value} {base : Heap}
theorem scGraph : FnScope ["_law_source", "_law_most", "_law_names", "_law_edges", "_law_name", "_law_limit", "_law_end"] ["_law_source", "_law_most"] (defScope sGraph) := ⟨rfl, rfl, rfl, by decide +kernel, rfl, by decide +kernel, by decide +kernel⟩
theorem ok_graph {f fN fM fO : Addr} {fd fdN fdM fdO : FuncData} (F : Fun K "_law_graph" "_law_graph" sGraph f fd) (ml : mg "len" = none) (mmin : mg "min" = none)
    (mN : mg "_law_next" = some (.ref fN)) (GN : FnOk P w K mg base CX0 1 fN fdN ["_law_source", "_law_many"] spNext) (kN : PySem.W.keepIn K (.ref fN) = true) (bN : Binds K fdN ["_law_source", "_law_many"] [])
    (mM : mg "_law_mixed" = some (.ref fM)) (GM : FnOk P w K mg base CX0 2 fM fdM ["_law_source", "_law_some"] (spMixed K)) (kM : PySem.W.keepIn K (.ref fM) = true) (bM : Binds K fdM ["_law_source", "_law_some"] [])
    (mO : mg "_law_one" = some (.ref fO)) (GO : FnOk P w K mg base CX0 2 fO fdO ["_law_source", "_law_some"] (spOne K)) (kO : PySem.W.keepIn K (.ref fO) = true) (bO : Binds K fdO ["_law_source", "_law_some"] []) :
    FnOk P w K mg base CX0 3 f fd ["_law_source", "_law_most"] spGraph := by
  refine F.ok scGraph (fun vs H Q E h => ?_) (fun cdv A outer s H vs Q E hr h => ?_)
  · obtain ⟨a, mo, rfl, _⟩ := h; rfl
  · obtain ⟨a, mo, rfl, mo0, mo8, S0, k⟩ := h
    have hr1 : Room 1 _ := hr.mono (by decide)
    refine ⟨_, pss_cons (ps_set (i := 2) scGraph.nd rfl (Or.inl rfl) (pe_slice sl_list (pe_call GM hr rfl mM kM bM .nil pass0 (pa_cons (pv 0) (pa_cons (pe_lst (pa_cons pe_str (pa_cons pe_str (pa_cons pe_str (pa_cons pe_str (pa_cons pe_str (pa_cons pe_str (pa_cons pe_str (pa_cons pe_str pa_nil))))))))) pa_nil)))
        po_none (po_some (pe_op op_add pe_int (pe_call GN hr1 rfl mN kN bN .nil pass0 (pa_cons (pv 0) (pa_cons (pv 1) pa_nil)))))))
      (pss_cons (ps_set (i := 3) scGraph.nd rfl (Or.inl rfl) (pe_lst pa_nil))
      (pss_cons (ps_for PassesOwn.never rfl (pi_list (pv 2)) (pg_name (i := 4) scGraph.nd rfl (Or.inr rfl))
        (pss_one (ps_expr (pe_bm PySem.F.plainAttrs_list PySem.F.slot_list_extend PySem.F.type_list_extend mt_extend (pv 3) (pa_cons (pe_lc (own := [("_law_end", 6)]) (g := gName 6) rfl scGraph.nd (pi_list (pv 2))
          (blkOk_by (own := [("_law_end", 6)]) (N := ["_law_source", "_law_most", "_law_names", "_law_edges", "_law_name", "_law_limit", "_law_end"]) (sc := defScope sGraph) (by decide +kernel))
          (fun _ _ _ _ _ => pg_name (i := 6) scGraph.nd rfl (Or.inl rfl)) (fun _ _ _ _ _ => pts_one (pt_cmpR op_lt_str (pv 4) (pv 6) (nomark _))) (fun _ _ _ _ _ => pe_tup (pa_cons (pv 4) (pa_cons (pv 6) pa_nil)))) pa_nil)))))
      (pss_cons (ps_set (i := 3) scGraph.nd rfl (Or.inl rfl) (pe_call GM hr rfl mM kM bM .nil pass0 (pa_cons (pv 0) (pa_cons (pv 3) pa_nil))))
      (pss_cons (ps_set (i := 5) scGraph.nd rfl (Or.inl rfl) (pe_call GO hr rfl mO kO bO .nil pass0 (pa_cons (pv 0) (pa_cons (pe_lst (pa_cons (pe_callB call_len_seq (by rfl) ml PySem.boot_len (pa_cons (pv 3) pa_nil)) (pa_cons (pe_op op_add (pe_callB call_len_seq (by rfl) ml PySem.boot_len (pa_cons (pv 2) pa_nil)) pe_int)
        (pa_cons (pe_op op_mul pe_int (pe_callB call_len_seq (by rfl) ml PySem.boot_len (pa_cons (pv 2) pa_nil))) (pa_cons (pe_call GN hr1 rfl mN kN bN .nil pass0 (pa_cons (pv 0) (pa_cons (pe_op op_add (pe_callB call_len_seq (by rfl) ml PySem.boot_len (pa_cons (pv 3) pa_nil)) pe_int) pa_nil))) pa_nil))))) pa_nil))))
      (pss_one (ps_ret (pe_tup (pa_cons (pv 2) (pa_cons (pe_slice sl_list (pv 3) po_none (po_some (pe_callB (call_min2 rfl) (by rfl) mmin (by decide +kernel) (pa_cons (pv 5) (pa_cons pe_int pa_nil))))) pa_nil))))))))), ?_⟩
    refine ⟨_, rfl, by show 8 ≤ sizeLine; decide, fun b hb => ?_⟩
    have ba := S0.ne hb
    have s1 : Same H (L2.upd H b (.lst (base8.map V.str))) := Same.new hb
    refine ⟨a, b, base8.map V.str, rfl, S0.but s1, ba.symm, upd_same, fun x hx => ?_, by decide, fun p ys H1 pm hp0 hp1 S1 B1 => ?_⟩
    · obtain ⟨z, hz, rfl⟩ := List.mem_map.mp hx
      exact .txt (base8_ok z hz).strOk
    obtain ⟨bs, pb, rfl⟩ := perm_map pm base8 rfl
    have B01 : But a H H1 := (But.of_same s1).trans B1
    have pa : p ≠ a := (S0.but s1).ne hp0
    refine ⟨_, rfl, _, rfl, a, mo, rfl, S1, mo0, by omega, fun r H2 r0 r1 S2 B2 => ⟨_, _, rfl, rfl, _, rfl, p, _, rfl, SqL.of (B2 p _ pa hp1), fun n hn => ?_⟩⟩
    have e1 : cutV (bs.map V.str) none (some (1 + r)) = (bs.take (1 + r).toNat).map V.str := by rw [cut_take _ _ (by omega), List.map_take]
    rw [e1]
    generalize hns : bs.take (1 + r).toNat = ns
    have len8 : bs.length = 8 := by rw [pb.length_eq]; rfl
    have nsl : ns.length = (1 + r).toNat := by rw [← hns, List.length_take, len8]; omega
    have n0 : 0 < ns.length := by omega
    have n8 : ns.length ≤ 8 := by omega
    have nsub : ∀ z ∈ ns, z ∈ base8 := fun z hz => pb.mem_iff.mp (List.mem_of_mem_take (hns ▸ hz))
    have nnd : ns.Nodup := by rw [← hns]; exact ((pb.nodup_iff).mpr base8_nd).sublist (List.take_sublist _ _)
    have nok : ∀ z ∈ ns, NameOk z := fun z hz => base8_ok z (nsub z hz)
    have na := S2.ne hn
    have B02 := B01.trans B2
    have n00 : H n = none := B02.none na hn
    refine ⟨by show 0 ≤ sizeLine; decide, fun e he => ?_⟩
    generalize hH3 : L2.upd H2 n (.lst (ns.map V.str)) = H3 at he ⊢
    have s23 : Same H2 H3 := by rw [← hH3]; exact Same.new hn
    have n3 : H3 n = some (.lst (ns.map V.str)) := by rw [← hH3]; exact upd_same
    have S3 := S2.but s23
    have ea := S3.ne he
    have B03 : But a H H3 := B02.trans (But.of_same s23)
    have e00 : H e = none := B03.none ea he
    refine ⟨_, rfl, n, rfl, ⟨_, SqL.of (Same.new he _ _ n3)⟩, for_list (K := K) (a := n) (xs := ns.map V.str) (fun i σ H' => ∃ v4, σ = [some (.ref a), some (.int mo), some (.ref n), some (.ref e), v4, none, none] ∧ Same H3 H' ∧ EdsAt H' e (upE (rowE ns) i))
      ⟨_, rfl, Same.new he, [], upd_same, (fun _ z => nomatch z), rfl⟩ (fun i σ H' _ ⟨_, _, s, _⟩ => SqL.of (s _ _ n3)) ?_ ?_⟩
    · rintro i x σ H4 hi ⟨v4, rfl, s4, R4⟩
      have li : i < ns.length := by have := (List.getElem?_eq_some_iff.mp hi).1; rw [List.length_map] at this; exact this
      rw [List.getElem?_map, List.getElem?_eq_getElem li] at hi
      obtain rfl : V.str ns[i] = x := Option.some.inj hi
      obtain ⟨_, r1, _⟩ := id R4
      refine ⟨_, rfl, .inl ⟨rfl, _, SqL.of r1⟩, _, rfl, n, rfl, ⟨_, SqL.of (s4 _ _ n3)⟩, fun D hD => lc_list (K := K) (a := n) (xs := ns.map V.str) (fun j H' => Same H4 H' ∧ EdsAt H' D (((ns.take j).filter (ltS ns[i])).map fun m => (ns[i], m)))
        ⟨Same.new hD, [], upd_same, (fun _ z => nomatch z), rfl⟩ (fun j H' _ ⟨s, _⟩ => SqL.of (s _ _ (s4 _ _ n3))) ?_ ?_⟩
      · rintro j y H5 hj ⟨s5, R5⟩
        have lj : j < ns.length := by have := (List.getElem?_eq_some_iff.mp hj).1; rw [List.length_map] at this; exact this
        rw [List.getElem?_map, List.getElem?_eq_getElem lj] at hj
        obtain rfl : V.str ns[j] = y := Option.some.inj hj
        have tk : ns.take (j + 1) = ns.take j ++ [ns[j]] := take_one (List.getElem?_eq_getElem lj)
        refine ⟨rfl, _, rfl, _, rfl, _, _, rfl, rfl, _, rfl, ?_⟩
        show if ltS ns[i] ns[j] = true then _ else _
        by_cases c : ltS ns[i] ns[j] = true
        · rw [c]
          refine iteT ⟨_, rfl, _, rfl, by show 2 ≤ sizeLine; decide, fun t ht => ?_⟩
          have s6 : Same H5 (L2.upd H5 t (.tup [.str ns[i], .str ns[j]])) := Same.new ht
          obtain ⟨zs, z1, z2, z3⟩ := (R5.kept s6).push (t := t) upd_same
          refine ⟨zs, z1, ?_, Same.grow hD (s5.trans s6), ?_⟩
          · rw [z2, List.length_map, sizeLine_eq]
            have := List.length_filter_le (ltS ns[i]) (ns.take j)
            rw [List.length_take] at this; omega
          · rw [tk, List.filter_append, List.map_append]
            have q : [ns[j]].filter (ltS ns[i]) = [ns[j]] := by simp [c]
            rw [q]; exact z3
        · have c' : ltS ns[i] ns[j] = false := by simpa using c
          rw [c']
          refine iteF ⟨s5, ?_⟩
          rw [tk, List.filter_append]
          have q : [ns[j]].filter (ltS ns[i]) = [] := by simp [c']
          rw [q, List.append_nil]; exact R5
      · rintro H5 ⟨s5, R5⟩
        rw [List.length_map, List.take_length] at R5
        have er : rowE ns i = (ns.filter (ltS ns[i])).map fun m => (ns[i], m) := by
          unfold rowE; rw [List.getElem?_eq_getElem li]
        rw [← er] at R5
        obtain ⟨zs, ys, z1, z2, z3, z4, z5⟩ := (R4.kept s5).ext R5
        refine ⟨e, D, zs, ys, rfl, rfl, z1, z2, ?_, ?_⟩
        · rw [z3, z4, sizeLine_eq]
          have q1 := upE_len (m := ns.length) (rowE_len ns) i
          have q2 := rowE_len ns i
          have q3 : i * ns.length ≤ 8 * 8 := Nat.mul_le_mul (by omega) n8
          omega
        · exact ⟨_, rfl, Same.grow he (s4.trans s5), z5⟩
    · rintro σ H4 ⟨v4, rfl, s4, ks, k1, k2, k3⟩
      rw [List.length_map] at k3
      have S4 := S3.but s4
      have klen : ks.length ≤ 64 := by
        have q1 := upE_len (m := ns.length) (rowE_len ns) ns.length
        have q3 : ns.length * ns.length ≤ 8 * 8 := Nat.mul_le_mul n8 n8
        have q4 := congrArg List.length k3
        rw [List.length_map] at q4; omega
      have kok : ∀ p ∈ ks, EdOk ns p.2 := fun p hp => upE_ok (n := ns.length) (by rw [← k3]; exact List.mem_map.mpr ⟨p, hp, rfl⟩)
      refine ⟨_, rfl, _, rfl, a, e, _, rfl, S4, ea.symm, k1, fun x hx => ?_, by rw [List.length_map]; omega, fun p2 ys H5 pm2 hp20 hp21 S5 B5 => ?_⟩
      · obtain ⟨p, hp, rfl⟩ := List.mem_map.mp hx
        obtain ⟨o1, o2, _⟩ := kok p hp
        exact .edge (k2 p hp) (nok _ o1).strOk (nok _ o2).strOk
      obtain ⟨js, pj, rfl⟩ := perm_map pm2 ks rfl
      have p2a := S4.ne hp20
      have n4 := s4 _ _ n3
      have n5 := B5 n _ na n4
      have j5 : ∀ p ∈ js, EdAt H5 p := fun p hp => EdAt.but S4 B5 (k2 p (pj.mem_iff.mp hp))
      have jlen : js.length ≤ 64 := by rw [pj.length_eq]; exact klen
      refine ⟨_, rfl, _, rfl, p2, _, rfl, .inl (SqL.of hp21), _, rfl, n, _, rfl, .inl (SqL.of n5), _, _, rfl, rfl, _, rfl, n, _, rfl, .inl (SqL.of n5), _, _, rfl, rfl, .inl ⟨by decide, by decide⟩, _, rfl, _, rfl, p2, _, rfl, .inl (SqL.of hp21), _, _, rfl, rfl, a, _, rfl, S5, by omega, by rw [List.length_map]; omega, fun r2 H6 r20 r21 S6 B6 => ?_⟩
      refine ⟨by show 4 ≤ sizeLine; decide, fun q hq => ?_⟩
      have qa := S6.ne hq
      have s67 : Same H6 (L2.upd H6 q (.lst [.int (js.map fun p => V.ref p.1).length, .int ((ns.map V.str).length + 1), .int (2 * (ns.map V.str).length), .int r2])) := Same.new hq
      refine ⟨a, q, _, rfl, S6.but s67, qa.symm, SqL.of upd_same, upd_same, by show 0 < 4; decide, by show 4 < 100000; decide, fun x H7 hx S7 B7 => ?_⟩
      obtain ⟨m, m0, rfl⟩ : ∃ m : Int, 0 ≤ m ∧ x = .int m := by
        simp only [List.mem_cons, List.not_mem_nil, or_false] at hx
        rcases hx with rfl | rfl | rfl | rfl
        · exact ⟨_, by omega, rfl⟩
        · exact ⟨_, by omega, rfl⟩
        · exact ⟨_, by omega, rfl⟩
        · exact ⟨_, r20, rfl⟩
      have B57 : But a H5 H7 := (B6.trans (But.of_same s67)).trans B7
      have p7 := B57 p2 _ p2a hp21
      have n7 := B57 n _ na n5
      refine ⟨_, rfl, _, rfl, _, rfl, _, _, rfl, _, rfl, p2, _, rfl, SqL.of p7, fun e2 he2 => ?_⟩
      have e2a := S7.ne he2
      generalize hm : (if (14 : Int) < m then 14 else m) = m2
      have m20 : 0 ≤ m2 := by rw [← hm]; split <;> omega
      have m18 : m2 ≤ 14 := by rw [← hm]; split <;> omega
      rw [cut_take _ _ m20, ← List.map_take]
      refine ⟨by show 2 ≤ sizeLine; decide, fun t ht => ?_⟩
      have B07 : But a H H7 := (((B03.trans (But.of_same s4)).trans B5).trans B57)
      have s78 : Same H7 (L2.upd H7 e2 (.lst ((js.take m2.toNat).map fun p => V.ref p.1))) := Same.new he2
      have s79 : Same H7 (L2.upd (L2.upd H7 e2 (.lst ((js.take m2.toNat).map fun p => V.ref p.1))) t (.tup [.ref n, .ref e2])) := s78.trans (Same.new ht)
      have jsub : ∀ p ∈ js.take m2.toNat, p ∈ js := fun p hp => List.mem_of_mem_take hp
      refine k t n e2 ns (js.take m2.toNat) _ upd_same ⟨s79 _ _ n7, n0, n8, nnd, nok, ?_, fun p hp => s79 _ _ (EdAt.but S5 B57 (j5 p (jsub p hp))), fun p hp => kok p (pj.mem_iff.mp (jsub p hp)), ?_, ?_⟩ nsub n00 (B07.none e2a he2) (S7.but s79) (B07.trans (But.of_same s79))
      · rw [upd_ne (ne_of_none (upd_same (H := H7) (a := e2)) ht)]; exact upd_same
      · have nd1 : (js.map (·.2)).Nodup := (pj.map (·.2)).nodup_iff.mpr (by rw [k3]; exact upE_nd nnd _)
        rw [List.map_take]; exact nd1.sublist (List.take_sublist _ _)
      · rw [List.length_take]; omega
end
end CP
namespace CP
open PySem L2
/-! ### lists of pairs as data -/
def pD (p : E2 × E2) : PyData := .tuple [encE p.1, encE p.2]
def OkE (e : E2) : Prop := PyData.strOk e.1 = true ∧ PyData.strOk e.2 = true
def OkP (p : E2 × E2) : Prop := OkE p.1 ∧ OkE p.2
theorem encE_lay {e : E2} (h : OkE e) : (encE e).canLay0 = true := by simp [encE, PyData.canLay0, PyData.canLayAll0, h.1, h.2]
theorem pD_lay {p : E2 × E2} (h : OkP p) : (pD p).canLay0 = true := by
  have a := encE_lay h.1; have b := encE_lay h.2
  simp [pD, PyData.canLay0, PyData.canLayAll0, a, b]
theorem pDs_lay : ∀ {ps : List (E2 × E2)}, (∀ p ∈ ps, OkP p) → PyData.canLayAll0 (ps.map pD) = true
  | [], _ => by simp [PyData.canLayAll0]
  | p :: ps, h => by
    have a := pD_lay (h p List.mem_cons_self)
    have b := pDs_lay fun q hq => h q (List.mem_cons_of_mem _ hq)
    simp [PyData.canLayAll0, a, b]
theorem encE_depth (e : E2) : (encE e).depth = 1 := by simp [encE, PyData.depth, PyData.depthAll]
theorem pD_depth (p : E2 × E2) : (pD p).depth = 2 := by simp [pD, PyData.depth, PyData.depthAll, encE_depth]
theorem pDs_depth : ∀ ps : List (E2 × E2), PyData.depthAll (ps.map pD) ≤ 2
  | [] => by simp [PyData.depthAll]
  | p :: ps => by
    have a := pD_depth p; have b := pDs_depth ps
    simp only [List.map_cons, PyData.depthAll]; omega
theorem pDs_shaped {ps : List (E2 × E2)} (h : ∀ p ∈ ps, OkP p) : SeqAt.shaped (.list (ps.map pD)) = true := by
  have c1 : (PyData.list (ps.map pD)).canLay0 = true := by simp [PyData.canLay0, pDs_lay h]
  have c2 : (PyData.list (ps.map pD)).depth = PyData.depthAll (ps.map pD) + 1 := by first | rfl | simp [PyData.depth, Nat.add_comm]
  have := pDs_depth ps
  unfold SeqAt.shaped; rw [c1, c2]; simp; omega
theorem alike_pD (p q : E2 × E2) : PySem.W.alike (pD p) (pD q) = true := by simp [pD, encE, PySem.W.alike, PySem.W.alikeAll]
theorem alike_pDs : ∀ ps : List (E2 × E2), PySem.W.alikeAll (ps.map pD) (ps.map pD) = true
  | [] => by simp [PySem.W.alikeAll]
  | p :: ps => by simp [PySem.W.alikeAll, alike_pD, alike_pDs ps]
theorem eqv_pDs (ps : List (E2 × E2)) : PyData.eqv (.list (ps.map pD)) (.list (ps.map pD)) = true := PySem.W.eqv_refl_alike _ (by simp [PySem.W.alike, alike_pDs])
theorem dp_pair {K : PySem.W.Frag} {H : Hp} {q : Pr} (h : PrAt H q) : Dp K H (.ref q.1) (pD (prV q)) := .tup (SqT.of h.ob) (.cons (dp_edge h.one) (.cons (dp_edge h.two) .nil))
theorem dp_pairs {K : PySem.W.Frag} {H : Hp} : ∀ {qs : List Pr}, (∀ q ∈ qs, PrAt H q) → DpAll K H (qs.map fun q => V.ref q.1) ((qs.map prV).map pD)
  | [], _ => .nil
  | q :: qs, h => .cons (dp_pair (h q List.mem_cons_self)) (dp_pairs fun r hr => h r (List.mem_cons_of_mem _ hr))
theorem PrsAt.dp {K : PySem.W.Frag} {H : Hp} {l : Addr} {ps : List (E2 × E2)} (h : PrsAt H l ps) : Dp K H (.ref l) (.list (ps.map pD)) := by
  obtain ⟨qs, a, b, rfl⟩ := h
  exact .lst (SqL.of a) (dp_pairs b)
/-! ### the order of pairs -/
theorem eqv_E (e f : E2) : PyData.eqv (encE e) (encE f) = decide (e = f) := by
  have h : PyData.eqv (encE e) (encE f) = (PyData.eqv (.str e.1) (.str f.1) && PyData.eqv (.str e.2) (.str f.2)) := by simp [encE, PyData.eqv, PyData.eqvAll]
  rw [h, eqv_str, eqv_str]
  obtain ⟨a, b⟩ := e; obtain ⟨c, d⟩ := f
  by_cases h1 : a = c <;> by_cases h2 : b = d <;> simp [h1, h2]
def ltP (p q : E2 × E2) : Bool := if p.1 = q.1 then (if p.2 = q.2 then false else ltE p.2 q.2) else ltE p.1 q.1
theorem dataLt_P (p q : E2 × E2) : PySem.W.dataLt (pD p) (pD q) = ltP p q := by
  unfold pD ltP
  rw [PySem.W.dataLt_pair (by simp [encE, PySem.W.alike, PySem.W.alikeAll]) (by simp [encE, PySem.W.alike, PySem.W.alikeAll]), eqv_E, eqv_E, dataLt_E, dataLt_E]
  by_cases h1 : p.1 = q.1 <;> by_cases h2 : p.2 = q.2 <;> simp [h1, h2]
theorem ltP_asymm {e f : E2 × E2} (h : ltP e f = true) : ltP f e = false := by
  unfold ltP at *
  by_cases h1 : e.1 = f.1
  · rw [if_pos h1] at h; rw [if_pos h1.symm]
    by_cases h2 : e.2 = f.2
    · rw [if_pos h2] at h; cases h
    · rw [if_neg h2] at h; rw [if_neg fun z => h2 z.symm]; exact ltE_asymm h
  · rw [if_neg h1] at h; rw [if_neg fun z => h1 z.symm]; exact ltE_asymm h
theorem ltP_total {e f : E2 × E2} (h : e ≠ f) (h2 : ltP e f = false) : ltP f e = true := by
  unfold ltP at *
  by_cases h1 : e.1 = f.1
  · rw [if_pos h1] at h2; rw [if_pos h1.symm]
    by_cases h3 : e.2 = f.2
    · exact absurd (Prod.ext h1 h3) h
    · rw [if_neg h3] at h2; rw [if_neg fun z => h3 z.symm]; exact ltE_total h3 h2
  · rw [if_neg h1] at h2; rw [if_neg fun z => h1 z.symm]; exact ltE_total h1 h2
def leP (p q : Pr) : Bool := PySem.W.dataLe false (fun p : Pr => pD (prV p)) p q
theorem leP_eq (p q : Pr) : leP p q = !ltP (prV q) (prV p) := by
  show (!PySem.W.dataLt (pD (prV q)) (pD (prV p))) = _
  rw [dataLt_P]
theorem leP_total : PySem.W.TotalLe leP := by
  show PySem.W.TotalLe (PySem.W.dataLe false fun p : Pr => pD (prV p))
  exact PySem.W.sortLe_total _ _ _
/-- the pairs in ascending order -/
def sortP (ks : List Pr) : List Pr := ks.mergeSort leP
theorem sortP_perm (ks : List Pr) : (sortP ks).Perm ks := List.mergeSort_perm ks leP
theorem sortP_lt {ks : List Pr} (nd : (ks.map prV).Nodup) : ((sortP ks).map prV).Pairwise (fun p q => ltP p q = true) := by
  have h1 := PySem.W.sort_pairwise leP_total ks
  have h2 : ((sortP ks).map prV).Nodup := ((sortP_perm ks).map _).nodup_iff.mpr nd
  rw [List.nodup_iff_pairwise_ne, List.pairwise_map] at h2
  rw [List.pairwise_map]
  refine (h1.and h2).imp fun {p q} ⟨a, b⟩ => ?_
  rw [leP_eq] at a
  have a' : ltP (prV q) (prV p) = false := by simpa using a
  exact ltP_total (fun z => b z.symm) a'
theorem ascP_unique : ∀ {l m : List (E2 × E2)}, l.Perm m → l.Pairwise (fun p q => ltP p q = true) → m.Pairwise (fun p q => ltP p q = true) → l = m
  | [], m, h, _, _ => h.nil_eq
  | p :: l, [], h, _, _ => absurd h.length_eq (by simp)
  | p :: l, q :: m, h, h1, h2 => by
    have e : p = q := by
      by_cases c : p = q
      · exact c
      · have a : p ∈ m := by
          have := h.mem_iff.mp (List.mem_cons_self (a := p) (l := l))
          rcases List.mem_cons.mp this with z | z
          · exact absurd z c
          · exact z
        have b : q ∈ l := by
          have := h.mem_iff.mpr (List.mem_cons_self (a := q) (l := m))
          rcases List.mem_cons.mp this with z | z
          · exact absurd z.symm c
          · exact z
        have u := (List.pairwise_cons.mp h1).1 q b
        have v := (List.pairwise_cons.mp h2).1 p a
        rw [ltP_asymm u] at v; cases v
    subst e
    rw [ascP_unique (List.Perm.cons_inv h) (List.pairwise_cons.mp h1).2 (List.pairwise_cons.mp h2).2]
/-- two lists of the same pairs, sorted, are one -/
theorem sortP_same {ks js : List Pr} (h : (js.map prV).Perm (ks.map prV)) (nd : (ks.map prV).Nodup) : (sortP js).map prV = (sortP ks).map prV :=
  ascP_unique ((((sortP_perm js).map prV).trans h).trans ((sortP_perm ks).map prV).symm) (sortP_lt (h.nodup_iff.mpr nd)) (sortP_lt nd)
section
variable {X : Cx}
theorem each_refsP : ∀ {ks : List Pr} {us : List Value}, PySem.W.EachIs (fun v (p : Pr) => v = Value.ref p.1) us ks → us = ks.map fun p => Value.ref p.1
  | [], _, .nil => rfl
  | p :: ks, _, .cons h t => by rw [h, each_refsP t]; rfl
theorem refs_eachP : ∀ ks : List Pr, PySem.W.EachIs (fun v (p : Pr) => v = Value.ref p.1) (ks.map fun p => Value.ref p.1) ks
  | [] => .nil
  | p :: ks => .cons rfl (refs_eachP ks)
theorem vals_refsP : ∀ ks : List Pr, Vals (ks.map fun p => V.ref p.1) (ks.map fun p => Value.ref p.1)
  | [] => .nil
  | p :: ks => .cons rfl (vals_refsP ks)
theorem reads_eachP {pins : List (Addr × Obj)} {σ : L2.St} {H : Hp} {s : Shared} (I : L2.Inv X pins σ H s) : ∀ {ks : List Pr}, (∀ p ∈ ks, PrAt H p) → PySem.W.EachIs (fun v (p : Pr) => ∃ as, Reads s.heap v (pD (prV p)) as) (ks.map fun p => Value.ref p.1) ks
  | [], _ => .nil
  | p :: ks, h => .cons (Dp.reads I _ _ _ (dp_pair (h p List.mem_cons_self)) rfl) (reads_eachP I fun q hq => h q (List.mem_cons_of_mem _ hq))
/-- sorted(a list of pairs) -/
def rSortP : List V → Hp → VK → Prop := fun vs H Q => ∃ (a : Addr) (ks : List Pr), vs = [V.ref a] ∧ H a = some (.lst (ks.map fun p => V.ref p.1)) ∧ (∀ p ∈ ks, PrAt H p) ∧ ks.length < 1000 ∧
  ∀ p, H p = none → Q (.ref p) (L2.upd H p (.lst ((sortP ks).map fun p => V.ref p.1)))
theorem cr_sortP (hu : X.A.units + 64 < cLine) : CallR X (.builtin "sorted") rSortP := by
  intro pins s σ H vs us Q I r h
  obtain ⟨a, ks, rfl, hA, hat, few, k⟩ := h
  obtain ⟨its, rv, pl, _⟩ := I.list (SqL.of hA)
  rw [Vals.ref1 r]
  have ei := refs_only (κ := Ed × Ed) rv
  subst ei
  refine PySem.W.sorted_data (β := Pr) (R := fun v p => v = Value.ref p.1) (enc := fun p => pD (prV p)) pl.isList (refs_eachP ks) (reads_eachP I hat) (PySem.W.AllAlike.of fun b b' => alike_pD _ _) (PySem.W.Sortable.tuples fun b => ⟨_, _, rfl⟩) (by rw [sizeLine_eq]; omega)
    (fun b _ => by rw [pD_depth]; omega) fun out hl e => ?_
  have eo : out = (sortP ks).map fun p => Value.ref p.1 := each_refsP e
  subst eo
  obtain ⟨ep, he⟩ := PyProof.Rows.sortedAll_at s.heap (ks.map fun p => Value.ref p.1) ((sortP ks).map fun p => Value.ref p.1).toArray
  have len : ((sortP ks).map fun p => V.ref p.1).length ≤ sizeLine := by rw [List.length_map, (sortP_perm ks).length_eq, sizeLine_eq]; omega
  exact ⟨.ref _, L2.upd H (s.heap.objs.size + 1) (.lst ((sortP ks).map fun p => V.ref p.1)), I.laid (t' := s.toks) (fun _ _ => PyProof.Rows.sortedAll_old) (Nat.le_succ _) ⟨len, _, ep, vals_refsP _, he⟩, rfl, k _ (I.hok.fresh (Nat.le_succ _))⟩
end
end CP
/-! min(x, y), max(x, y) of data -/
namespace CP
open PySem PySem.W PySem.Spec PyProof.Rows
section
variable {prog : Program} {w : World} {A : Around} {E : Value → Shared → Prop} {s : Shared}
abbrev pairO (x y : Value) : Obj := { cls := .type "tuple", data := .seq [x, y].toArray }
theorem min2_data {x y : Value} {dx dy : PyData} {ax ay : List Addr} {Q : Value → Shared → Prop} (hh : A.handled = none) (rx : Reads s.heap x dx ax) (ry : Reads s.heap y dy ay) (al : AlikeAll [dx, dy]) (hu : A.units + 1 + PyData.depthAll [dx, dy] < cLine)
    (h : ∀ h' tk, (∀ b o, s.heap.get? b = some o → h'.get? b = some o) → Q (if dataLt dy dx = true then y else x) { s with heap := h', toks := tk }) : wpAny (model prog w) A (call (.builtin "min") [x, y]) Q E s := by
  have nameL : (toString "min" ++ toString ".loop" : String) = "min.loop" := by decide
  have up : ∀ b o, s.heap.get? b = some o → (s.heap.push (pairO x y)).get? b = some o := fun b o e => Heap.get?_push_of_some _ e
  have rs : ReadsAll (s.heap.push (pairO x y)) (#[x, y] : Array Value).toList [dx, dy] _ := .cons (PyProof.Rows.Reads.keeps up rx) (.cons (PyProof.Rows.Reads.keeps up ry) .nil)
  have tup : (s.heap.push (pairO x y)).IsTuple s.heap.objs.size #[x, y] := ⟨_, Heap.get?_push_size _ rfl, rfl, 0, rfl⟩
  refine call_function_tree F.kind_min F.plain_min F.entry_min (F.args_min2 _ _) ?_
  show wpAny _ A.in1 (Builtin.Builtins.bindParams "min" _ 0 ⟨[], []⟩ >>= _) _ _ s
  refine wpAny_bind (wpAny_of_eq (a := [none, none]) rfl ?_)
  show wpAny _ A.in1 (newTuple [x, y] >>= _) _ _ s
  refine wpAny_bind (wpAny_newObj_type (wpAny_bind ?_))
  refine iter_tupleW (s := { s with heap := s.heap.push (pairO x y) }) (A := A.in1) hh tup fun s2 e W st fp wr kp => ?_
  refine wpAny_bind (wpAny_newObj_type ?_)
  rw [nameL]
  refine wpAny_pure ⟨plainId_quiet F.plain_min_loop _, codeAny_min_loop_firstH W (s.heap.push (pairO x y)) wr _ (cmpIn_lt (s := { s with heap := s.heap.push (pairO x y) }) (A := A.in1) rs al (by show A.units + 1 + _ < _; exact hu)) s2.heap.objs.size (fun z => Nat.lt_irrefl _ (fp _ z)) (fresh_in kp) _ (by show 0 < 2; decide) (fun b o z => Heap.get?_push_of_some _ (kp b o z)) (W.frame 0 s2 _ s2.toks st (Nat.le_refl _) fun b _ o z => Heap.get?_push_of_some _ z) (Heap.get?_push_size _ rfl) fun v s3 hv mv => ?_⟩
  obtain ⟨h3, tk, rfl, k3⟩ := moved_old e rfl (Moved.drop_new (tk := s2.toks) mv (Nat.le_refl _))
  have ev : v = if dataLt dy dx = true then y else x := by
    by_cases c : dataLt dy dx = true
    · rw [if_pos c]
      have hv' : (#[x, y] : Array Value)[if dataLt dy dx = true then 1 else 0]? = some v := hv
      rw [if_pos c] at hv'; exact (Option.some.inj hv').symm
    · rw [if_neg c]
      have hv' : (#[x, y] : Array Value)[if dataLt dy dx = true then 1 else 0]? = some v := hv
      rw [if_neg c] at hv'; exact (Option.some.inj hv').symm
  rw [ev]
  exact h h3 tk fun b o z => k3 b o (up b o z)
theorem max2_data {x y : Value} {dx dy : PyData} {ax ay : List Addr} {Q : Value → Shared → Prop} (hh : A.handled = none) (rx : Reads s.heap x dx ax) (ry : Reads s.heap y dy ay) (al : AlikeAll [dx, dy]) (hu : A.units + 1 + PyData.depthAll [dx, dy] < cLine)
    (h : ∀ h' tk, (∀ b o, s.heap.get? b = some o → h'.get? b = some o) → Q (if dataLt dx dy = true then y else x) { s with heap := h', toks := tk }) : wpAny (model prog w) A (call (.builtin "max") [x, y]) Q E s := by
  have nameL : (toString "max" ++ toString ".loop" : String) = "max.loop" := by decide
  have up : ∀ b o, s.heap.get? b = some o → (s.heap.push (pairO x y)).get? b = some o := fun b o e => Heap.get?_push_of_some _ e
  have rs : ReadsAll (s.heap.push (pairO x y)) (#[x, y] : Array Value).toList [dx, dy] _ := .cons (PyProof.Rows.Reads.keeps up rx) (.cons (PyProof.Rows.Reads.keeps up ry) .nil)
  have tup : (s.heap.push (pairO x y)).IsTuple s.heap.objs.size #[x, y] := ⟨_, Heap.get?_push_size _ rfl, rfl, 0, rfl⟩
  refine call_function_tree F.kind_max F.plain_max F.entry_max (F.args_max2 _ _) ?_
  show wpAny _ A.in1 (Builtin.Builtins.bindParams "max" _ 0 ⟨[], []⟩ >>= _) _ _ s
  refine wpAny_bind (wpAny_of_eq (a := [none, none]) rfl ?_)
  show wpAny _ A.in1 (newTuple [x, y] >>= _) _ _ s
  refine wpAny_bind (wpAny_newObj_type (wpAny_bind ?_))
  refine iter_tupleW (s := { s with heap := s.heap.push (pairO x y) }) (A := A.in1) hh tup fun s2 e W st fp wr kp => ?_
  refine wpAny_bind (wpAny_newObj_type ?_)
  rw [nameL]
  refine wpAny_pure ⟨plainId_quiet F.plain_max_loop _, codeAny_max_loop_firstH W (s.heap.push (pairO x y)) wr _ (cmpIn_gt (s := { s with heap := s.heap.push (pairO x y) }) (A := A.in1) rs al (by show A.units + 1 + _ < _; exact hu)) s2.heap.objs.size (fun z => Nat.lt_irrefl _ (fp _ z)) (fresh_in kp) _ (by show 0 < 2; decide) (fun b o z => Heap.get?_push_of_some _ (kp b o z)) (W.frame 0 s2 _ s2.toks st (Nat.le_refl _) fun b _ o z => Heap.get?_push_of_some _ z) (Heap.get?_push_size _ rfl) fun v s3 hv mv => ?_⟩
  obtain ⟨h3, tk, rfl, k3⟩ := moved_old e rfl (Moved.drop_new (tk := s2.toks) mv (Nat.le_refl _))
  have ev : v = if dataLt dx dy = true then y else x := by
    by_cases c : dataLt dx dy = true
    · rw [if_pos c]
      have hv' : (#[x, y] : Array Value)[if dataLt dx dy = true then 1 else 0]? = some v := hv
      rw [if_pos c] at hv'; exact (Option.some.inj hv').symm
    · rw [if_neg c]
      have hv' : (#[x, y] : Array Value)[if dataLt dx dy = true then 1 else 0]? = some v := hv
      rw [if_neg c] at hv'; exact (Option.some.inj hv').symm
  rw [ev]
  exact h h3 tk fun b o z => k3 b o (up b o z)
end
open L2
section
variable {X : Cx}
theorem alike_two (e f : E2) : AlikeAll [encE e, encE f] := by
  refine ⟨fun x hx y hy => ?_, fun x hx => ?_⟩
  · simp only [List.mem_cons, List.not_mem_nil, or_false] at hx hy
    rcases hx with rfl | rfl <;> rcases hy with rfl | rfl <;> simp [encE, alike, alikeAll]
  · simp only [List.mem_cons, List.not_mem_nil, or_false] at hx
    rcases hx with rfl | rfl <;> simp [encE]
theorem two_depth (e f : E2) : PyData.depthAll [encE e, encE f] = 1 := by simp [PyData.depthAll, encE_depth]
def rMinE : List V → Hp → VK → Prop := fun vs H Q => ∃ p q : Ed, vs = [.ref p.1, .ref q.1] ∧ EdAt H p ∧ EdAt H q ∧ Q (.ref (if ltE q.2 p.2 = true then q.1 else p.1)) H
def rMaxE : List V → Hp → VK → Prop := fun vs H Q => ∃ p q : Ed, vs = [.ref p.1, .ref q.1] ∧ EdAt H p ∧ EdAt H q ∧ Q (.ref (if ltE p.2 q.2 = true then q.1 else p.1)) H
theorem call_minE (hc : X.calm = true) (hu : X.A.units + 64 < cLine) : CallR X (.builtin "min") rMinE := by
  intro pins s σ H xs us Q I r h
  obtain ⟨p, q, rfl, hp, hq, k⟩ := h
  obtain ⟨u, v, rfl, r1, r2⟩ := vals2 r
  obtain ⟨as, ra⟩ := Dp.reads I (encE p.2) _ u (dp_edge hp) r1
  obtain ⟨bs, rb⟩ := Dp.reads I (encE q.2) _ v (dp_edge hq) r2
  refine min2_data (I.ok.hd hc) ra rb (alike_two _ _) (by rw [two_depth]; omega) fun h' tk kp => ⟨_, H, I.kept (t' := tk) kp, ?_, k⟩
  rw [dataLt_E]
  cases ltE q.2 p.2
  · exact r1
  · exact r2
theorem call_maxE (hc : X.calm = true) (hu : X.A.units + 64 < cLine) : CallR X (.builtin "max") rMaxE := by
  intro pins s σ H xs us Q I r h
  obtain ⟨p, q, rfl, hp, hq, k⟩ := h
  obtain ⟨u, v, rfl, r1, r2⟩ := vals2 r
  obtain ⟨as, ra⟩ := Dp.reads I (encE p.2) _ u (dp_edge hp) r1
  obtain ⟨bs, rb⟩ := Dp.reads I (encE q.2) _ v (dp_edge hq) r2
  refine max2_data (I.ok.hd hc) ra rb (alike_two _ _) (by rw [two_depth]; omega) fun h' tk kp => ⟨_, H, I.kept (t' := tk) kp, ?_, k⟩
  rw [dataLt_E]
  cases ltE p.2 q.2
  · exact r1
  · exact r2
end
end CP
/-! Values of any kind: is_couple, is_among, joins, is_edge, is_carry -/
namespace CP
open PySem L2
abbrev sIsEdge : Stmt := top 24
-- no sCarry
mutual
/-- a value of any kind, as data; dicts without items only -/
inductive Od (H : Hp) : V → PyData → Prop
  | non : Od H .non .none
  | int (i : Int) : Od H (.int i) (.int i)
  | str (x : Str) : Od H (.str x) (.str x)
  | lst {a : Addr} {xs : List V} {ds : List PyData} : H a = some (.lst xs) → OdAll H xs ds → Od H (.ref a) (.list ds)
  | tup {a : Addr} {xs : List V} {ds : List PyData} : H a = some (.tup xs) → OdAll H xs ds → Od H (.ref a) (.tuple ds)
  | dct {a : Addr} : H a = some (.dK []) → Od H (.ref a) (.dict [])
  | bl (b : Bool) : Od H (.bl b) (.bool b)
inductive OdAll (H : Hp) : List V → List PyData → Prop
  | nil : OdAll H [] []
  | cons {v : V} {vs : List V} {d : PyData} {ds : List PyData} : Od H v d → OdAll H vs ds → OdAll H (v :: vs) (d :: ds)
end
mutual
theorem Od.same {H H' : Hp} (s : Same H H') : ∀ {v : V} {d : PyData}, Od H v d → Od H' v d
  | _, _, .non => .non
  | _, _, .int i => .int i
  | _, _, .str x => .str x
  | _, _, .lst h a => .lst (s _ _ h) (OdAll.same s a)
  | _, _, .tup h a => .tup (s _ _ h) (OdAll.same s a)
  | _, _, .dct h => .dct (s _ _ h)
  | _, _, .bl b => .bl b
theorem OdAll.same {H H' : Hp} (s : Same H H') : ∀ {vs : List V} {ds : List PyData}, OdAll H vs ds → OdAll H' vs ds
  | _, _, .nil => .nil
  | _, _, .cons h t => .cons (h.same s) (t.same s)
end
def coupB : PyData → Bool
  | .tuple [_, _] => true
  | _ => false
def amB (ns : List Str) : PyData → Bool
  | .str z => decide (z ∈ ns)
  | _ => false
def joB (ns : List Str) : PyData → Bool
  | .tuple [.str u, .str v] => decide (u ∈ ns) && (decide (v ∈ ns) && ltS u v)
  | _ => false
def edB (ns : List Str) (es : List E2) : PyData → Bool
  | .tuple [.str u, .str v] => (decide (u ∈ ns) && (decide (v ∈ ns) && ltS u v)) && decide ((u, v) ∈ es)
  | _ => false
def offB : PyData → Str → Bool
  | .tuple [.str u, .str v], z => decide (z ∉ [u, v])
  | _, _ => false
def caB (ns : List Str) (es : List E2) : PyData → Bool
  | .tuple [e, .str z] => edB ns es e && (decide (z ∈ ns) && offB e z)
  | _ => false
def spCoupleG : Sp := fun vs H Q _ => ∃ (x : V) (d : PyData), vs = [x] ∧ Od H x d ∧ Q (.bl (coupB d)) H
def spAmongG (K : PySem.W.Frag) : Sp := fun vs H Q _ => ∃ (a : Addr) (ns : List Str) (x : V) (d : PyData), vs = [.ref a, x] ∧ (SqL K H a (ns.map V.str) ∨ SqT K H a (ns.map V.str)) ∧ Od H x d ∧ Q (.bl (amB ns d)) H
def spJoinsG (K : PySem.W.Frag) : Sp := fun vs H Q _ => ∃ (a : Addr) (ns : List Str) (x : V) (d : PyData), vs = [.ref a, x] ∧ (SqL K H a (ns.map V.str) ∨ SqT K H a (ns.map V.str)) ∧ Od H x d ∧ Q (.bl (joB ns d)) H
def spIsEdge (C : Addr) : Sp := fun vs H Q _ => ∃ (g : Addr) (ns : List Str) (es : List Ed) (x : V) (d : PyData), vs = [.ref g, x] ∧ GrAt C H g ns es ∧ Od H x d ∧ Q (.bl (edB ns (es.map (·.2)) d)) H
def spCarry (C : Addr) : Sp := fun vs H Q _ => ∃ (g : Addr) (ns : List Str) (es : List Ed) (x : V) (d : PyData), vs = [.ref g, x] ∧ GrAt C H g ns es ∧ Od H x d ∧ Q (.bl (caB ns (es.map (·.2)) d)) H
theorem odLen {H : Hp} : ∀ {vs : List V} {ds : List PyData}, OdAll H vs ds → vs.length = ds.length
  | _, _, .nil => rfl
  | _, _, .cons _ t => by rw [List.length_cons, List.length_cons, odLen t]
section
variable {X : Cx}
/-- x in a tuple of edges -/
def rInE : R2 := fun x y H Q => ∃ (p : Addr) (u v : Str) (t : Addr) (es : List Ed), x = .ref p ∧ y = .ref t ∧ H p = some (.tup [.str u, .str v]) ∧ H t = some (.tup (es.map fun q => V.ref q.1)) ∧ (∀ q ∈ es, EdAt H q) ∧ Q (.bl (decide ((u, v) ∈ es.map (·.2)))) H
theorem dp_edges {K : PySem.W.Frag} {H : Hp} : ∀ {es : List Ed}, (∀ q ∈ es, EdAt H q) → DpAll K H (es.map fun q => V.ref q.1) (es.map fun q => encE q.2)
  | [], _ => .nil
  | q :: es, h => .cons (dp_edge (h q List.mem_cons_self)) (dp_edges fun r hr => h r (List.mem_cons_of_mem _ hr))
theorem plain_es : ∀ es : List Ed, PyData.plainAll (es.map fun q => encE q.2) = true
  | [] => rfl
  | q :: es => by
    show (PyData.plain (encE q.2) && PyData.plainAll (es.map fun q => encE q.2)) = true
    rw [plain_es es]; simp [encE, PyData.plain, PyData.plainAll]
theorem any_es (e : E2) (es : List Ed) : ((es.map fun q => encE q.2).any fun y => PyData.eqv y (encE e)) = decide (e ∈ es.map (·.2)) := by
  rw [List.any_map]
  by_cases c : e ∈ es.map (·.2)
  · rw [decide_eq_true c]
    obtain ⟨q, hq, rfl⟩ := List.mem_map.mp c
    exact List.any_eq_true.mpr ⟨q, hq, by show PyData.eqv (encE q.2) (encE q.2) = true; rw [eqv_E]; simp⟩
  · rw [decide_eq_false c]
    cases h : es.any ((fun y => PyData.eqv y (encE e)) ∘ fun q => encE q.2) with
    | false => rfl
    | true =>
      obtain ⟨q, hq, z⟩ := List.any_eq_true.mp h
      have z' : PyData.eqv (encE q.2) (encE e) = true := z
      rw [eqv_E] at z'
      exact absurd (List.mem_map.mpr ⟨q, hq, of_decide_eq_true z'⟩) c
theorem op_inE (hu : X.A.units + 64 < cLine) : OpR X (compareOp .In) rInE := by
  intro pins s σ H x y v u Q I rx ry h
  obtain ⟨p, a, b, t, es, rfl, rfl, hp, ht, he, k⟩ := h
  obtain ⟨as, r1⟩ := Dp.reads I (encE (a, b)) _ v (dp_edge (p := (p, (a, b))) hp) rx
  obtain ⟨bs, r2⟩ := Dp.reads I (.tuple (es.map fun q => encE q.2)) _ u (.tup (SqT.of ht) (dp_edges he)) ry
  refine PySem.SeqAt.in_tuple_data r2 r1 (plain_es es) (by simp [encE, PyData.plain, PyData.plainAll]) (by rw [encE_depth]; omega) ⟨.bl _, H, I, rfl, ?_⟩
  rw [any_es]; exact k
end
section
variable {P : Program} {w : World} {K : PySem.W.Frag} {mg : Str → Option Value} {base : Heap}
theorem ok_coupleG {f : Addr} {fd : FuncData} (F : Fun K "is_couple" "is_couple" sCouple f fd) (mi : mg "isinstance" = none) (ml : mg "len" = none) (mt : mg "tuple" = none) : FnOk P w K mg base CX0 1 f fd ["value"] spCoupleG := by
  refine F.ok scCouple (fun vs H Q E h => ?_) (fun cdv A outer s H vs Q E hr h => ?_)
  · obtain ⟨x, d, rfl, _⟩ := h; rfl
  · obtain ⟨x, d, rfl, o, k⟩ := h
    refine ⟨_, pss_one (ps_ret (pe_and (pe_callB call_isi (by rfl) mi (by decide +kernel) (pa_cons (pv 0) (pa_cons (pe_bltn (v := .ty "tuple") (by rfl) mt (by decide +kernel) rfl) pa_nil)))
      (pe_one (pe_cmpR op_eq (pe_callB call_len_seq (by rfl) ml PySem.boot_len (pa_cons (pv 0) pa_nil)) pe_int (nomark _))))), ?_⟩
    cases o with
    | non => exact ⟨_, rfl, _, _, .type "NoneType", _, false, rfl, .ty _, .base .non, kit_ty (by decide +kernel), _, rfl, iteF k⟩
    | int i => exact ⟨_, rfl, _, _, .type "int", _, false, rfl, .ty _, .base (.int i), kit_ty (by decide +kernel), _, rfl, iteF k⟩
    | str z => exact ⟨_, rfl, _, _, .type "str", _, false, rfl, .ty _, .base (.str z), kit_ty (by decide +kernel), _, rfl, iteF k⟩
    | lst h _ => exact ⟨_, rfl, _, _, .type "list", _, false, rfl, .ty _, .base (.lst h), kit_ty (by decide +kernel), _, rfl, iteF k⟩
    | dct h => exact ⟨_, rfl, _, _, .type "dict", _, false, rfl, .ty _, .base (.dK h), kit_ty (by decide +kernel), _, rfl, iteF k⟩
    | bl b => exact ⟨_, rfl, _, _, .type "bool", _, false, rfl, .ty _, .base (.bl b), kit_ty (by decide +kernel), _, rfl, iteF k⟩
    | @tup a xs ds h al =>
      refine ⟨_, rfl, _, _, .type "tuple", _, true, rfl, .ty _, .base (.tup h), kit_ty (by decide +kernel), _, rfl, iteT ?_⟩
      refine ⟨_, rfl, a, _, rfl, .inr (SqT.of h), rfl, ?_⟩
      have hl := odLen al
      have e : decide (V.int (xs.length : Int) = V.int 2) = coupB (.tuple ds) := by
        rw [hl]
        match ds with
        | [] => rfl
        | [_] => rfl
        | [_, _] => rfl
        | _ :: _ :: _ :: r =>
          rw [decide_eq_false (fun z => by injection z with z; simp only [List.length_cons] at z; omega)]; rfl
      rw [e]; exact k
theorem ok_amongG {f : Addr} {fd : FuncData} (F : Fun K "is_among" "is_among" sAmong f fd) (mi : mg "isinstance" = none) (ms : mg "str" = none) : FnOk P w K mg base CX0 1 f fd ["vertices", "value"] (spAmongG K) := by
  refine F.ok scAmong (fun vs H Q E h => ?_) (fun cdv A outer s H vs Q E hr h => ?_)
  · obtain ⟨a, ns, x, d, rfl, _⟩ := h; rfl
  · obtain ⟨a, ns, x, d, rfl, hA, o, k⟩ := h
    refine ⟨_, pss_one (ps_ret (pe_and (pe_callB call_isi (by rfl) mi (by decide +kernel) (pa_cons (pv 1) (pa_cons (pe_bltn (v := .ty "str") (by rfl) ms (by decide +kernel) rfl) pa_nil))) (pe_one (pe_cmpR op_in_seq (pv 1) (pv 0) rfl)))), ?_⟩
    cases o with
    | non => exact ⟨_, rfl, _, _, .type "NoneType", _, false, rfl, .ty _, .base .non, kit_ty (by decide +kernel), _, rfl, iteF k⟩
    | int i => exact ⟨_, rfl, _, _, .type "int", _, false, rfl, .ty _, .base (.int i), kit_ty (by decide +kernel), _, rfl, iteF k⟩
    | lst h _ => exact ⟨_, rfl, _, _, .type "list", _, false, rfl, .ty _, .base (.lst h), kit_ty (by decide +kernel), _, rfl, iteF k⟩
    | tup h _ => exact ⟨_, rfl, _, _, .type "tuple", _, false, rfl, .ty _, .base (.tup h), kit_ty (by decide +kernel), _, rfl, iteF k⟩
    | dct h => exact ⟨_, rfl, _, _, .type "dict", _, false, rfl, .ty _, .base (.dK h), kit_ty (by decide +kernel), _, rfl, iteF k⟩
    | bl b => exact ⟨_, rfl, _, _, .type "bool", _, false, rfl, .ty _, .base (.bl b), kit_ty (by decide +kernel), _, rfl, iteF k⟩
    | str z =>
      refine ⟨_, rfl, _, _, .type "str", _, true, rfl, .ty _, .base (.str z), kit_ty (by decide +kernel), _, rfl, iteT ?_⟩
      refine ⟨_, rfl, _, rfl, a, _, rfl, hA, rfl, flat_txt ns, ?_⟩
      rw [inV_txt]; exact k
theorem joB_no {ns : List Str} {d : PyData} (h : coupB d = false) : joB ns d = false := by
  unfold joB; split
  · cases h
  · rfl
theorem joB_am {ns : List Str} {a b : PyData} : joB ns (.tuple [a, b]) = (amB ns a && (amB ns b && (match a, b with | .str u, .str v => ltS u v | _, _ => false))) := by
  cases a <;> cases b <;> simp [joB, amB]
theorem am_str {ns : List Str} {H : Hp} {x : V} {d : PyData} (o : Od H x d) (h : amB ns d = true) : ∃ z, d = .str z ∧ x = .str z ∧ z ∈ ns := by
  cases o with
  | str z => exact ⟨z, rfl, rfl, of_decide_eq_true h⟩
  | _ => cases h
theorem ok_joinsG {f fC fA : Addr} {fd fdC fdA : FuncData} (F : Fun K "joins" "joins" sJoins f fd) (mC : mg "is_couple" = some (.ref fC)) (FC : FnOk P w K mg base CX0 1 fC fdC ["value"] spCoupleG) (kC : PySem.W.keepIn K (.ref fC) = true) (bC : Binds K fdC ["value"] [])
    (mA : mg "is_among" = some (.ref fA)) (FA : FnOk P w K mg base CX0 1 fA fdA ["vertices", "value"] (spAmongG K)) (kA : PySem.W.keepIn K (.ref fA) = true) (bA : Binds K fdA ["vertices", "value"] []) : FnOk P w K mg base CX0 2 f fd ["vertices", "value"] (spJoinsG K) := by
  refine F.ok scJoins (fun vs H Q E h => ?_) (fun cdv A outer s H vs Q E hr h => ?_)
  · obtain ⟨a, ns, x, d, rfl, _⟩ := h; rfl
  · obtain ⟨a, ns, x, d, rfl, hA, o, k⟩ := h
    refine ⟨_, pss_cons (ps_if (pt_not (pt_val (pe_call FC hr rfl mC kC bC .nil pass0 (pa_cons (pv 1) pa_nil)))) (pss_one (ps_ret pe_bl)) pss_nil)
      (pss_cons (ps_asg (pv 1) (pg_tup rfl (pgs_cons (pg_name (i := 2) scJoins.nd rfl (Or.inl rfl)) (pgs_cons (pg_name (i := 3) scJoins.nd rfl (Or.inl rfl)) pgs_nil))))
      (pss_one (ps_ret (pe_and (pe_call FA hr rfl mA kA bA .nil pass0 (pa_cons (pv 0) (pa_cons (pv 2) pa_nil))) (pe_and (pe_call FA hr rfl mA kA bA .nil pass0 (pa_cons (pv 0) (pa_cons (pv 3) pa_nil))) (pe_one (pe_cmpR op_lt_str (pv 2) (pv 3) (nomark _)))))))), ?_⟩
    refine ⟨_, rfl, x, d, rfl, o, _, rfl, ?_⟩
    cases c : coupB d with
    | false => rw [joB_no c] at k; exact iteT k
    | true =>
      refine iteF ?_
      cases o with
      | @tup p xs ds hp al =>
        match ds, c, al, k with
        | [da, db], _, .cons (v := va) oa (.cons (v := vb) ob .nil), k =>
          refine ⟨_, rfl, p, _, rfl, SqT.of hp, rfl, _, _, rfl, _, _, rfl, rfl, ?_⟩
          rw [joB_am] at k
          refine ⟨_, rfl, _, rfl, a, ns, va, da, rfl, hA, oa, _, rfl, ?_⟩
          cases c1 : amB ns da with
          | false => rw [c1] at k; exact iteF k
          | true =>
            rw [c1] at k
            refine iteT ⟨_, rfl, _, rfl, a, ns, vb, db, rfl, hA, ob, _, rfl, ?_⟩
            cases c2 : amB ns db with
            | false => rw [c2] at k; exact iteF k
            | true =>
              rw [c2] at k
              obtain ⟨u, rfl, rfl, _⟩ := am_str oa c1
              obtain ⟨v, rfl, rfl, _⟩ := am_str ob c2
              exact iteT ⟨_, rfl, _, rfl, _, _, rfl, rfl, k⟩
      | _ => cases c
theorem scIsEdge : FnScope ["graph", "value"] ["graph", "value"] (defScope sIsEdge) := ⟨rfl, rfl, rfl, by decide +kernel, rfl, by decide +kernel, by decide +kernel⟩
theorem edB_no {ns : List Str} {es : List E2} {d : PyData} (h : joB ns d = false) : edB ns es d = false := by
  unfold edB; split
  · rename_i u v
    have h' : (decide (u ∈ ns) && (decide (v ∈ ns) && ltS u v)) = false := h
    rw [h']; rfl
  · rfl
theorem jo_str {ns : List Str} {H : Hp} {x : V} {d : PyData} (o : Od H x d) (h : joB ns d = true) : ∃ (p : Addr) (u v : Str), x = .ref p ∧ H p = some (.tup [.str u, .str v]) ∧ d = .tuple [.str u, .str v] := by
  cases o with
  | @tup p xs ds hp al =>
    match ds, h, al with
    | [.str u, .str v], _, .cons oa (.cons ob .nil) =>
      cases oa; cases ob
      exact ⟨p, u, v, rfl, hp, rfl⟩
  | _ => cases h
theorem ok_isedge {f fJ C : Addr} {fd fdJ : FuncData} (F : Fun K "is_edge" "is_edge" sIsEdge f fd) (T : GTxt K mg C)
    (mJ : mg "joins" = some (.ref fJ)) (FJ : FnOk P w K mg base CX0 2 fJ fdJ ["vertices", "value"] (spJoinsG K)) (kJ : PySem.W.keepIn K (.ref fJ) = true) (bJ : Binds K fdJ ["vertices", "value"] []) : FnOk P w K mg base CX0 3 f fd ["graph", "value"] (spIsEdge C) := by
  refine F.ok scIsEdge (fun vs H Q E h => ?_) (fun cdv A outer s H vs Q E hr h => ?_)
  · obtain ⟨g, ns, es, x, d, rfl, _⟩ := h; rfl
  · obtain ⟨g, ns, es, x, d, rfl, G, o, k⟩ := h
    refine ⟨_, pss_one (ps_ret (pe_and (pe_call FJ hr rfl mJ kJ bJ .nil pass0 (pa_cons (pe_fld (pv 0) rfl) (pa_cons (pv 1) pa_nil))) (pe_one (pe_cmpR (op_inE hr.units) (pv 1) (pe_fld (pv 0) rfl) rfl)))), ?_⟩
    obtain ⟨⟨dx, t1, t2, g1, g2, g3⟩, ge⟩ := id G
    refine ⟨_, rfl, g, C, dx, _, _, rfl, g1, T.cl, T.nV, gf_v _ _, _, rfl, t1, ns, x, d, rfl, .inr (SqT.of g2), o, _, rfl, ?_⟩
    cases c : joB ns d with
    | false => rw [edB_no c] at k; exact iteF k
    | true =>
      obtain ⟨p, u, v, rfl, hp, rfl⟩ := jo_str o c
      refine iteT ⟨_, rfl, _, rfl, g, C, dx, _, _, rfl, g1, T.cl, T.nE, gf_e _ _, p, u, v, t2, es, rfl, rfl, hp, g3, ge, ?_⟩
      have e : edB ns (es.map (·.2)) (.tuple [.str u, .str v]) = decide ((u, v) ∈ es.map (·.2)) := by
        have c' : (decide (u ∈ ns) && (decide (v ∈ ns) && ltS u v)) = true := c
        show ((decide (u ∈ ns) && (decide (v ∈ ns) && ltS u v)) && decide ((u, v) ∈ es.map (·.2))) = _
        rw [c']; rfl
      rw [e] at k; exact k
end
end CP
/-! errors with one field; NoEdge.__init__ -/
namespace CP
open PySem L2
abbrev sI6 : Stmt := inClass (top 7) 0
def spXI (C : Addr) : Str → Sp := fun f vs H Q _ => ∃ (a : Addr) (v : V), vs = [.ref a, v] ∧ H a = some (exo a C none) ∧ ∀ d, H d = none → d ≠ a → Q .non (L2.upd (L2.upd H d (exd d [(f, v)])) a (exo a C (some d)))
/-- what is asked to raise C(v) -/
theorem mk_raise {C a : Addr} {f : Str} {H1 : Hp} {v : V} {R : XK} (ha : H1 a = none) (k : ∀ d H2, H1 d = none → H2 d = some (.xd [(f, v)]) → Same H1 H2 → R (.ref C) (some d) H2) :
    spXI C f [.ref a, v] (L2.upd H1 a (exo a C none)) (fun v H2 => v = .non ∧ ∃ (d : Addr) (fs : List (Str × V)), H2 a = some (exo a C (some d)) ∧ H2 d = some (exd d fs) ∧ H1 d = none ∧ R (.ref C) (some d) (L2.upd (del H2 a) d (.xd fs))) E0 := by
  refine ⟨a, v, rfl, upd_same, fun d hd hda => ?_⟩
  have hd' : H1 d = none := by rw [upd_ne hda] at hd; exact hd
  refine ⟨rfl, d, _, upd_same, by rw [upd_ne hda, upd_same], hd', k d _ hd' upd_same fun b o e => ?_⟩
  rw [upd_ne (ne_of_none e hd'), del_ne (ne_of_none e ha), upd_ne (ne_of_none e ha), upd_ne (ne_of_none e hd'), upd_ne (ne_of_none e ha)]; exact e
theorem op_in2 {X : Cx} (K : PySem.W.Frag) (h : X.K = K) : OpR X (compareOp .In) (rIn K false) := h ▸ op_in_seq
theorem ap_ne {e f : E2} (h : apB e f = true) : e ≠ f := fun z => by
  subst z
  exact (of_decide_eq_true h).1 rfl
theorem ed_str {ns : List Str} {es : List E2} {H : Hp} {x : V} {d : PyData} (o : Od H x d) (h : edB ns es d = true) : ∃ (p : Addr) (u v : Str), x = .ref p ∧ H p = some (.tup [.str u, .str v]) ∧ d = .tuple [.str u, .str v] ∧ (u, v) ∈ es := by
  cases o with
  | @tup p xs ds hp al =>
    match ds, h, al with
    | [.str u, .str v], h, .cons oa (.cons ob .nil) =>
      cases oa; cases ob
      have h' : ((decide (u ∈ ns) && (decide (v ∈ ns) && ltS u v)) && decide ((u, v) ∈ es)) = true := h
      simp only [Bool.and_eq_true, decide_eq_true_eq] at h'
      exact ⟨p, u, v, rfl, hp, rfl, h'.2⟩
  | _ => cases h
section
variable {P : Program} {w : World} {K : PySem.W.Frag} {mg : Str → Option Value} {base : Heap}
theorem scI6 : FnScope ["self", "edge"] ["self", "edge"] (defScope sI6) := ⟨rfl, rfl, rfl, by decide +kernel, rfl, by decide +kernel, by decide +kernel⟩
theorem ok_I6 {f C : Addr} {fd : FuncData} (F : Fun K "__init__" "NoEdge.__init__" sI6 f fd) (T : OexC K C) (no : PySem.W.findIn K (.ref C) "edge" = some none) : FnOk P w K mg base CX0 1 f fd ["self", "edge"] (spXI C "edge") := by
  refine F.ok scI6 (fun vs H Q E h => ?_) (fun cdv A outer s H vs Q E hr h => ?_)
  · obtain ⟨a, v, rfl, _⟩ := h; rfl
  · obtain ⟨a, v, rfl, ha, k⟩ := h
    exact ⟨_, pss_one (ps_ost (pv 0) (pv 1)), _, rfl, _, rfl, a, C, rfl, T, no, .inl ⟨ha, k⟩⟩
end
end CP
/-! rows (lists or tuples) walked; is_row at any value -/
namespace CP
open PySem PySem.Spec PyProof.Rows L2
theorem odAt {H : Hp} : ∀ {vs : List V} {ds : List PyData} {i : Nat} {x : V}, OdAll H vs ds → vs[i]? = some x → ∃ d, ds[i]? = some d ∧ Od H x d
  | _, _, _, _, .nil, h => by simp at h
  | _, _, 0, x, .cons (v := v) o t, h => by
    obtain rfl : v = x := Option.some.inj h
    exact ⟨_, rfl, o⟩
  | _, _, i + 1, x, .cons o t, h => odAt (i := i) t h
theorem odTxt {H : Hp} : ∀ ns : List Str, OdAll H (ns.map V.str) (ns.map PyData.str)
  | [] => .nil
  | z :: ns => .cons (.str z) (odTxt ns)
def rowB : PyData → Bool
  | .list _ => true
  | .tuple _ => true
  | _ => false
def itD : PyData → Option (List PyData)
  | .list ds => some ds
  | .tuple ds => some ds
  | _ => none
theorem od_cases {H : Hp} {x : V} {d : PyData} (o : Od H x d) : (rowB d = false ∧ itD d = none) ∨ ∃ a xs ds, x = .ref a ∧ RowAt H a xs ∧ OdAll H xs ds ∧ rowB d = true ∧ itD d = some ds := by
  cases o with
  | lst h al => exact .inr ⟨_, _, _, rfl, .inl h, al, rfl, rfl⟩
  | tup h al => exact .inr ⟨_, _, _, rfl, .inr h, al, rfl, rfl⟩
  | _ => exact .inl ⟨rfl, rfl⟩
def spRowG : Sp := fun vs H Q _ => ∃ (x : V) (d : PyData), vs = [x] ∧ Od H x d ∧ ∀ H', Same H H' → Q (.bl (rowB d)) H'
/-- the same, or an instance of the class C -/
def OdT (C : Addr) (H : Hp) (x : V) (d : PyData) : Prop := Od H x d ∨ ∃ a dx fs, x = .ref a ∧ H a = some (.ins C dx fs) ∧ d = .dict []
theorem OdT.same {C : Addr} {H H' : Hp} {x : V} {d : PyData} (s : Same H H') : OdT C H x d → OdT C H' x d
  | .inl o => .inl (o.same s)
  | .inr ⟨a, dx, fs, e, h, q⟩ => .inr ⟨a, dx, fs, e, s _ _ h, q⟩
def spRowT (C : Addr) : Sp := fun vs H Q _ => ∃ (x : V) (d : PyData), vs = [x] ∧ OdT C H x d ∧ ∀ H', Same H H' → Q (.bl (rowB d)) H'
theorem odT_cases {C : Addr} {H : Hp} {x : V} {d : PyData} (o : OdT C H x d) : (rowB d = false ∧ itD d = none) ∨ ∃ a xs ds, x = .ref a ∧ RowAt H a xs ∧ OdAll H xs ds ∧ rowB d = true ∧ itD d = some ds := by
  rcases o with o | ⟨a, dx, fs, e, h, rfl⟩
  · exact od_cases o
  · exact .inl ⟨rfl, rfl⟩
section
variable {P : Program} {w : World} {K : PySem.W.Frag} {mg : Str → Option Value} {base : Heap}
theorem kit0 {K : PySem.W.Frag} {t : String} (h : t ∈ ["NoneType", "int", "str", "dict", "bool"]) : PySem.W.kitAny K (.type t) [.type "list", .type "tuple"] = some false := by
  simp only [List.mem_cons, List.not_mem_nil, or_false] at h
  rcases h with rfl | rfl | rfl | rfl | rfl
  all_goals exact kitAny_cons (kit_ty (b := "list") (r := false) (by decide +kernel)) (fun _ => kitAny_cons (kit_ty (b := "tuple") (r := false) (by decide +kernel)) (fun _ => rfl) (fun z => nomatch z)) (fun z => nomatch z)
theorem ok_rowG {f : Addr} {fd : FuncData} (F : Fun K "is_row" "is_row" sRow f fd) (mi : mg "isinstance" = none) (ml : mg "list" = none) (mt : mg "tuple" = none) : FnOk P w K mg base CX0 1 f fd ["value"] spRowG := by
  refine F.ok scRow (fun vs H Q E h => ?_) (fun cdv A outer s H vs Q E hr h => ?_)
  · obtain ⟨x, d, rfl, _⟩ := h; rfl
  · obtain ⟨x, d, rfl, o, k⟩ := h
    refine ⟨_, pss_one (ps_ret (pe_callB call_isiT (by rfl) mi (by decide +kernel) (pa_cons (pv 0) (pa_cons (pe_tup (pa_cons (pe_bltn (v := .ty "list") (by rfl) ml (by decide +kernel) rfl) (pa_cons (pe_bltn (v := .ty "tuple") (by rfl) mt (by decide +kernel) rfl) pa_nil))) pa_nil)))), ?_⟩
    refine ⟨_, rfl, by show 2 ≤ sizeLine; decide, fun t ht => ?_⟩
    have s1 : Same H (L2.upd H t (.tup [.ty "list", .ty "tuple"])) := fun c o e => by rw [upd_ne (ne_of_none e ht)]; exact e
    cases o with
    | non => exact ⟨_, t, _, .type "NoneType", _, false, rfl, upd_same, .cons (.ty _) (.cons (.ty _) .nil), .base .non, kit0 (by decide), k _ s1⟩
    | int i => exact ⟨_, t, _, .type "int", _, false, rfl, upd_same, .cons (.ty _) (.cons (.ty _) .nil), .base (.int i), kit0 (by decide), k _ s1⟩
    | str z => exact ⟨_, t, _, .type "str", _, false, rfl, upd_same, .cons (.ty _) (.cons (.ty _) .nil), .base (.str z), kit0 (by decide), k _ s1⟩
    | dct h => exact ⟨_, t, _, .type "dict", _, false, rfl, upd_same, .cons (.ty _) (.cons (.ty _) .nil), .base (.dK (s1 _ _ h)), kit0 (by decide), k _ s1⟩
    | bl b => exact ⟨_, t, _, .type "bool", _, false, rfl, upd_same, .cons (.ty _) (.cons (.ty _) .nil), .base (.bl b), kit0 (by decide), k _ s1⟩
    | lst h _ => exact ⟨_, t, _, .type "list", _, true, rfl, upd_same, .cons (.ty _) (.cons (.ty _) .nil), .base (.lst (s1 _ _ h)), kit2 (.inl rfl), k _ s1⟩
    | tup h _ => exact ⟨_, t, _, .type "tuple", _, true, rfl, upd_same, .cons (.ty _) (.cons (.ty _) .nil), .base (.tup (s1 _ _ h)), kit2 (.inr rfl), k _ s1⟩
theorem ok_rowT {f C : Addr} {fd : FuncData} (cl : Cls K C) (ca : PySem.W.findIn K (.ref C) "__class__" = some (some (.builtin "object.__class__"))) (sg : PySem.W.specialIn K (.builtin "object.__class__") "__get__" = some (some (.builtin "getset_descriptor.__get__"))) (tk : PySem.W.takesIn K (.builtin "object.__class__") = some true) (mo : PySem.W.mroIn K C (.type "object") = some true) (kI : PySem.W.kitAny K (.ref C) [.type "list", .type "tuple"] = some false) (F : Fun K "is_row" "is_row" sRow f fd) (mi : mg "isinstance" = none) (ml : mg "list" = none) (mt : mg "tuple" = none) : FnOk P w K mg base CX0 1 f fd ["value"] (spRowT C) := by
  refine F.ok scRow (fun vs H Q E h => ?_) (fun cdv A outer s H vs Q E hr h => ?_)
  · obtain ⟨x, d, rfl, _⟩ := h; rfl
  · obtain ⟨x, d, rfl, o, k⟩ := h
    refine ⟨_, pss_one (ps_ret (pe_callB call_isiT (by rfl) mi (by decide +kernel) (pa_cons (pv 0) (pa_cons (pe_tup (pa_cons (pe_bltn (v := .ty "list") (by rfl) ml (by decide +kernel) rfl) (pa_cons (pe_bltn (v := .ty "tuple") (by rfl) mt (by decide +kernel) rfl) pa_nil))) pa_nil)))), ?_⟩
    refine ⟨_, rfl, by show 2 ≤ sizeLine; decide, fun t ht => ?_⟩
    have s1 : Same H (L2.upd H t (.tup [.ty "list", .ty "tuple"])) := fun c o e => by rw [upd_ne (ne_of_none e ht)]; exact e
    rcases o with o | ⟨b, dx, fs, rfl, hb, rfl⟩
    rotate_left
    · exact ⟨_, t, _, .ref C, _, false, rfl, upd_same, .cons (.ty _) (.cons (.ty _) .nil), .base (.ins (s1 _ _ hb) cl ca sg tk mo), kI, k _ s1⟩
    cases o with
    | non => exact ⟨_, t, _, .type "NoneType", _, false, rfl, upd_same, .cons (.ty _) (.cons (.ty _) .nil), .base .non, kit0 (by decide), k _ s1⟩
    | int i => exact ⟨_, t, _, .type "int", _, false, rfl, upd_same, .cons (.ty _) (.cons (.ty _) .nil), .base (.int i), kit0 (by decide), k _ s1⟩
    | str z => exact ⟨_, t, _, .type "str", _, false, rfl, upd_same, .cons (.ty _) (.cons (.ty _) .nil), .base (.str z), kit0 (by decide), k _ s1⟩
    | dct h => exact ⟨_, t, _, .type "dict", _, false, rfl, upd_same, .cons (.ty _) (.cons (.ty _) .nil), .base (.dK (s1 _ _ h)), kit0 (by decide), k _ s1⟩
    | bl b => exact ⟨_, t, _, .type "bool", _, false, rfl, upd_same, .cons (.ty _) (.cons (.ty _) .nil), .base (.bl b), kit0 (by decide), k _ s1⟩
    | lst h _ => exact ⟨_, t, _, .type "list", _, true, rfl, upd_same, .cons (.ty _) (.cons (.ty _) .nil), .base (.lst (s1 _ _ h)), kit2 (.inl rfl), k _ s1⟩
    | tup h _ => exact ⟨_, t, _, .type "tuple", _, true, rfl, upd_same, .cons (.ty _) (.cons (.ty _) .nil), .base (.tup (s1 _ _ h)), kit2 (.inr rfl), k _ s1⟩
end
/-- enumerate(a list or a tuple) -/
def iEnumS (ta : TA) : TI := fun σ H R => ta σ H fun vs H1 => ∃ a xs, vs = [.ref a] ∧ RowAt H1 a xs ∧ ∀ J G, Walk J xs.length G (YPair (fun i => some (.int (i : Nat))) (fun i => xs[i]?)) → (∀ H, H a = H1 a → G H) → R J H1
theorem pi_enumS {X : Cx} {e : Expr} {ta : TA} {p pos tpos : Pos} {elts : List Expr} {kk : Nat} (hg : Gl X "enumerate") (hm : X.mg "enumerate" = none) (ha : PA X [e] ta) (hs : starEach [e] X.env = [(false, eval e X.env)] := by rfl) :
    PI X (.Tuple elts kk tpos) (.Call (.Name "enumerate" p) [e] [] pos) (iEnumS ta) := by
  refine ⟨fun pins s σ H R I h => ?_⟩
  refine Call_ (ld_blt I hg hm boot_enumerate (PyProof.Rows.callWith_type1 (thn (ha.run pos pins s σ H _ I h) fun us s1 ⟨vs, H1, I1, r1, a, xs, ex, hrow, q⟩ => ?_) hs rfl))
  subst ex
  rw [Vals.ref1 r1]
  have fin : ∀ b ∈ [s1.heap.objs.size + 1, s1.heap.objs.size], FpOk X pins H1 b := fun b hb => by
    have hle : s1.heap.objs.size ≤ b := by
      rcases (show b = s1.heap.objs.size + 1 ∨ b = s1.heap.objs.size by simpa using hb) with z | z
      · rw [z]; exact Nat.le_add_right _ _
      · rw [z]; exact Nat.le_refl _
    exact I1.fpOk hle (I1.hok.fresh hle)
  rcases hrow with hq | hq
  · obtain ⟨its, rv, p', hz⟩ := I1.list (SqL.of hq)
    refine call_enumerate_list p'.isList fun h' he hit hsz hk => wpAny_pyIter_enum he ?_
    have I2 : L2.Inv X pins σ H1 { s1 with heap := h' } := I1.kept (t' := s1.toks) hk
    exact ⟨s1.heap.objs.size + 1, [s1.heap.objs.size + 1, s1.heap.objs.size], _, _, H1, rfl, I2, turn_enum a (s1.heap.objs.size + 1) s1.heap.objs.size, ⟨⟨.none, he⟩, hit, Nat.succ_ne_self _⟩, fin, q (Ite X.K a) _ walk_enum fun H s => SqL.of (s.trans hq)⟩
  · obtain ⟨its, rv, p', hz⟩ := I1.tuple (SqT.of hq)
    refine call_enumT (items := its.toArray) p' fun h' he hit hk => wpAny_pyIter_enum he ?_
    have I2 : L2.Inv X pins σ H1 { s1 with heap := h' } := I1.kept (t' := s1.toks) hk
    exact ⟨s1.heap.objs.size + 1, [s1.heap.objs.size + 1, s1.heap.objs.size], _, _, H1, rfl, I2, turn_enumT a (s1.heap.objs.size + 1) s1.heap.objs.size, ⟨⟨.none, he⟩, hit, Nat.succ_ne_self _⟩, fin, q (ItT X.K a) _ walk_enumT fun H s => SqT.of (s.trans hq)⟩
end CP
/-! is_pair, check_record, check_carries at any value -/
namespace CP
open PySem PySem.Spec PyProof.Rows L2
abbrev sIsPair : Stmt := top 25
abbrev sCheckR : Stmt := top 26
abbrev sI1 : Stmt := inClass (top 3) 0
def edOf : PyData → E2
  | .tuple [.str u, .str v] => (u, v)
  | _ => (default, default)
def ppOf : PyData → E2 × E2
  | .tuple [e, f] => (edOf e, edOf f)
  | _ => ((default, default), (default, default))
def prB (ns : List Str) (es : List E2) : PyData → Bool
  | .tuple [e, f] => edB ns es e && (edB ns es f && (ltE (edOf e) (edOf f) && apB (edOf e) (edOf f)))
  | _ => false
/-- the first item that is no pair or stood before -/
def badFrom (ns : List Str) (es : List E2) : List (E2 × E2) → Nat → List PyData → Option Nat
  | _, _, [] => none
  | seen, i, d :: ds => if (prB ns es d && !decide (ppOf d ∈ seen)) = true then badFrom ns es (ppOf d :: seen) (i + 1) ds else some i
def recBad (ns : List Str) (es : List E2) (d : PyData) : Option Int := match itD d with
  | none => some (-1)
  | some ds => (badFrom ns es [] 0 ds).map fun i => (i : Int)
def badC (ns : List Str) (es : List E2) : Nat → List PyData → Option Nat
  | _, [] => none
  | i, d :: ds => if caB ns es d = true then badC ns es (i + 1) ds else some i
def carBad (ns : List Str) (es : List E2) (d : PyData) : Option Int := match itD d with
  | none => some (-1)
  | some ds => (badC ns es 0 ds).map fun i => (i : Int)
theorem prB_no {ns : List Str} {es : List E2} {d : PyData} (h : coupB d = false) : prB ns es d = false := by
  unfold prB; split
  · cases h
  · rfl
def spIsPair (C : Addr) : Sp := fun vs H Q _ => ∃ (g : Addr) (ns : List Str) (es : List Ed) (x : V) (d : PyData), vs = [.ref g, x] ∧ GrAt C H g ns es ∧ Od H x d ∧ Q (.bl (prB ns (es.map (·.2)) d)) H
/-- what is said when NoRecord(i) or NoCarry(i) leaves -/
abbrev RaisesAt (H : Hp) (E : XK) (C : Addr) (i : Int) : Prop := ∀ dd H', H dd = none → H' dd = some (.xd [("at", .int i)]) → Same H H' → E (.ref C) (some dd) H'
def spCheckR (C Cr : Addr) : Sp := fun vs H Q E => ∃ (g : Addr) (ns : List Str) (es : List Ed) (x : V) (d : PyData), vs = [.ref g, x] ∧ GrAt C H g ns es ∧ OdT C H x d ∧ (∀ ds, itD d = some ds → ds.length < 200) ∧
  (∀ i, recBad ns (es.map (·.2)) d = some i → RaisesAt H E Cr i) ∧ (recBad ns (es.map (·.2)) d = none → ∀ H', Same H H' → Q .non H')
def spCheckC (C Cc : Addr) : Sp := fun vs H Q E => ∃ (g : Addr) (ns : List Str) (es : List Ed) (x : V) (d : PyData), vs = [.ref g, x] ∧ GrAt C H g ns es ∧ Od H x d ∧
  (∀ i, carBad ns (es.map (·.2)) d = some i → RaisesAt H E Cc i) ∧ (carBad ns (es.map (·.2)) d = none → ∀ H', Same H H' → Q .non H')
/-- a pair among values: its tuple and those of its edges -/
theorem pr_str {ns : List Str} {es : List E2} {H : Hp} {x : V} {d : PyData} (o : Od H x d) (h : prB ns es d = true) : ∃ b, x = .ref b ∧ PpH H b (ppOf d) := by
  cases o with
  | @tup q xs ds hq al =>
    match ds, h, al with
    | [da, db], h, .cons oa (.cons ob .nil) =>
      have h' : (edB ns es da && (edB ns es db && (ltE (edOf da) (edOf db) && apB (edOf da) (edOf db)))) = true := h
      simp only [Bool.and_eq_true] at h'
      obtain ⟨p, u, v, rfl, hp, rfl, m⟩ := ed_str oa h'.1
      obtain ⟨p2, u2, v2, rfl, hp2, rfl, m2⟩ := ed_str ob h'.2.1
      exact ⟨q, rfl, p, p2, hq, hp, hp2⟩
  | _ => cases h
section
variable {P : Program} {w : World} {K : PySem.W.Frag} {mg : Str → Option Value} {base : Heap}
theorem scIsPair : FnScope ["graph", "value", "one", "other"] ["graph", "value"] (defScope sIsPair) := ⟨rfl, rfl, rfl, by decide +kernel, rfl, by decide +kernel, by decide +kernel⟩
theorem ok_ispair {f fC fE fA C : Addr} {fd fdC fdE fdA : FuncData} (F : Fun K "is_pair" "is_pair" sIsPair f fd)
    (mC : mg "is_couple" = some (.ref fC)) (FC : FnOk P w K mg base CX0 1 fC fdC ["value"] spCoupleG) (kC : PySem.W.keepIn K (.ref fC) = true) (bC : Binds K fdC ["value"] [])
    (mE : mg "is_edge" = some (.ref fE)) (FE : FnOk P w K mg base CX0 3 fE fdE ["graph", "value"] (spIsEdge C)) (kE : PySem.W.keepIn K (.ref fE) = true) (bE : Binds K fdE ["graph", "value"] [])
    (mA : mg "are_apart" = some (.ref fA)) (FA : FnOk P w K mg base CX0 1 fA fdA ["one", "other"] spApart) (kA : PySem.W.keepIn K (.ref fA) = true) (bA : Binds K fdA ["one", "other"] []) : FnOk P w K mg base CX0 4 f fd ["graph", "value"] (spIsPair C) := by
  refine F.ok scIsPair (fun vs H Q E h => ?_) (fun cdv A outer s H vs Q E hr h => ?_)
  · obtain ⟨g, ns, es, x, d, rfl, _⟩ := h; rfl
  · obtain ⟨g, ns, es, x, d, rfl, G, o, k⟩ := h
    have hr1 : Room 1 _ := hr.mono (by decide)
    refine ⟨_, pss_cons (ps_if (pt_not (pt_val (pe_call FC hr1 rfl mC kC bC .nil pass0 (pa_cons (pv 1) pa_nil)))) (pss_one (ps_ret pe_bl)) pss_nil)
      (pss_cons (ps_asg (pv 1) (pg_tup rfl (pgs_cons (pg_name (i := 2) scIsPair.nd rfl (Or.inl rfl)) (pgs_cons (pg_name (i := 3) scIsPair.nd rfl (Or.inl rfl)) pgs_nil))))
      (pss_one (ps_ret (pe_and (pe_call FE hr rfl mE kE bE .nil pass0 (pa_cons (pv 0) (pa_cons (pv 2) pa_nil))) (pe_and (pe_call FE hr rfl mE kE bE .nil pass0 (pa_cons (pv 0) (pa_cons (pv 3) pa_nil)))
        (pe_and (pe_cmpR (op_ltE hr.units) (pv 2) (pv 3) (nomark _)) (pe_one (pe_call FA hr1 rfl mA kA bA .nil pass0 (pa_cons (pv 2) (pa_cons (pv 3) pa_nil)))))))))), ?_⟩
    refine ⟨_, rfl, x, d, rfl, o, _, rfl, ?_⟩
    cases c : coupB d with
    | false => rw [prB_no c] at k; exact iteT k
    | true =>
      refine iteF ?_
      cases o with
      | @tup p xs ds hp al =>
        match ds, c, al, k with
        | [da, db], _, .cons (v := va) oa (.cons (v := vb) ob .nil), k =>
          refine ⟨_, rfl, p, _, rfl, SqT.of hp, rfl, _, _, rfl, _, _, rfl, rfl, ?_⟩
          have k : Q (.bl (edB ns (es.map (·.2)) da && (edB ns (es.map (·.2)) db && (ltE (edOf da) (edOf db) && apB (edOf da) (edOf db))))) H := k
          refine ⟨_, rfl, _, rfl, g, ns, es, va, da, rfl, G, oa, _, rfl, ?_⟩
          cases c1 : edB ns (es.map (·.2)) da with
          | false => rw [c1] at k; exact iteF k
          | true =>
            rw [c1] at k
            refine iteT ⟨_, rfl, _, rfl, g, ns, es, vb, db, rfl, G, ob, _, rfl, ?_⟩
            cases c2 : edB ns (es.map (·.2)) db with
            | false => rw [c2] at k; exact iteF k
            | true =>
              rw [c2] at k
              obtain ⟨p1, u, v, rfl, hp1, rfl, _⟩ := ed_str oa c1
              obtain ⟨p2, x, y, rfl, hp2, rfl, _⟩ := ed_str ob c2
              have k : Q (.bl (ltE (u, v) (x, y) && apB (u, v) (x, y))) H := k
              refine iteT ⟨_, rfl, _, rfl, (p1, u, v), (p2, x, y), rfl, rfl, hp1, hp2, _, rfl, ?_⟩
              cases c3 : ltE (u, v) (x, y) with
              | false => rw [c3] at k; exact iteF k
              | true =>
                rw [c3] at k
                exact iteT ⟨_, rfl, _, rfl, p1, p2, u, v, x, y, rfl, hp1, hp2, k⟩
      | _ => cases c
theorem scI1 : FnScope ["self", "at"] ["self", "at"] (defScope sI1) := ⟨rfl, rfl, rfl, by decide +kernel, rfl, by decide +kernel, by decide +kernel⟩
theorem ok_I1 {f C : Addr} {fd : FuncData} (F : Fun K "__init__" "NoRecord.__init__" sI1 f fd) (T : OexC K C) (no : PySem.W.findIn K (.ref C) "at" = some none) : FnOk P w K mg base CX0 1 f fd ["self", "at"] (spXI C "at") := by
  refine F.ok scI1 (fun vs H Q E h => ?_) (fun cdv A outer s H vs Q E hr h => ?_)
  · obtain ⟨a, v, rfl, _⟩ := h; rfl
  · obtain ⟨a, v, rfl, ha, k⟩ := h
    exact ⟨_, pss_one (ps_ost (pv 0) (pv 1)), _, rfl, _, rfl, a, C, rfl, T, no, .inl ⟨ha, k⟩⟩
theorem scCheckR : FnScope ["graph", "value", "seen", "at", "pair"] ["graph", "value"] (defScope sCheckR) := ⟨rfl, rfl, rfl, by decide +kernel, rfl, by decide +kernel, by decide +kernel⟩
/-- what stands at d has been seen -/
theorem bad_step {ns : List Str} {es : List E2} {ds : List PyData} {i : Nat} {d : PyData} (h : ds[i]? = some d) {seen : List (E2 × E2)} (base : badFrom ns es [] 0 ds = badFrom ns es seen i (ds.drop i)) :
    badFrom ns es [] 0 ds = if (prB ns es d && !decide (ppOf d ∈ seen)) = true then badFrom ns es (ppOf d :: seen) (i + 1) (ds.drop (i + 1)) else some i := by
  rw [base]
  have e : ds.drop i = d :: ds.drop (i + 1) := by
    obtain ⟨hl, rfl⟩ := List.getElem?_eq_some_iff.mp h
    exact List.drop_eq_getElem_cons hl
  rw [e]; rfl
theorem badC_step {ns : List Str} {es : List E2} {ds : List PyData} {i : Nat} {d : PyData} (h : ds[i]? = some d) (base : badC ns es 0 ds = badC ns es i (ds.drop i)) :
    badC ns es 0 ds = if caB ns es d = true then badC ns es (i + 1) (ds.drop (i + 1)) else some i := by
  rw [base]
  have e : ds.drop i = d :: ds.drop (i + 1) := by
    obtain ⟨hl, rfl⟩ := List.getElem?_eq_some_iff.mp h
    exact List.drop_eq_getElem_cons hl
  rw [e]; rfl
theorem ok_checkR {f fR fP fI C Cr : Addr} {fd fdR fdP fdI : FuncData} (F : Fun K "check_record" "check_record" sCheckR f fd) (me : mg "enumerate" = none) (mset : mg "set" = none)
    (mR : mg "is_row" = some (.ref fR)) (FR : FnOk P w K mg base CX0 1 fR fdR ["value"] (spRowT C)) (kR : PySem.W.keepIn K (.ref fR) = true) (bR : Binds K fdR ["value"] [])
    (mP : mg "is_pair" = some (.ref fP)) (FP : FnOk P w K mg base CX0 4 fP fdP ["graph", "value"] (spIsPair C)) (kP : PySem.W.keepIn K (.ref fP) = true) (bP : Binds K fdP ["graph", "value"] [])
    (mN : mg "NoRecord" = some (.ref Cr)) (TN : OexC K Cr) (iN : PySem.W.findIn K (.ref Cr) "__init__" = some (some (.ref fI))) (tN : PySem.W.typeIn K (.ref fI) = some (.type "function")) (GI : FnOk P w K mg base CX0 1 fI fdI ["self", "at"] (spXI Cr "at")) (bI : Binds K fdI ["self", "at"] []) :
    FnOk P w K mg base (L2.CX P w) 5 f fd ["graph", "value"] (spCheckR C Cr) := by
  refine F.okX scCheckR (fun vs H Q E h => ?_) (fun cdv A outer s H vs Q E hr h => ?_)
  · obtain ⟨g, ns, es, x, d, rfl, _⟩ := h; rfl
  · obtain ⟨g, ns, es, x, d, rfl, G, o, len, kE, kQ⟩ := h
    have hr1 : Room 1 _ := hr.mono (by decide)
    have hr2 : Room 2 _ := hr.mono (by decide)
    refine ⟨_, pss_cons (ps_if (pt_not (pt_val (pe_call FR hr1 rfl mR kR bR .nil pass0 (pa_cons (pv 1) pa_nil)))) (pss_one (ps_raise rfl (takes_of rfl rfl rfl rfl) (pmk_oex TN iN tN GI hr2 bI .nil pass0 rfl mN (pa_cons (pe_un un_neg pe_int) pa_nil)))) pss_nil)
      (pss_cons (ps_set (i := 2) scCheckR.nd rfl (Or.inl rfl) (pe_callTy0 (cr_set0P P w rfl rfl) (by rfl) mset (by decide +kernel)))
      (pss_one (ps_for (passes_of rfl) rfl (pi_enumS (by rfl) me (pa_cons (pv 1) pa_nil)) (pg_tup rfl (pgs_cons (pg_name (i := 3) scCheckR.nd rfl (Or.inl rfl)) (pgs_cons (pg_name (i := 4) scCheckR.nd rfl (Or.inl rfl)) pgs_nil)))
        (pss_cons (ps_if (PW.pt (pw_or (pt_not (pt_val (pe_call FP hr rfl mP kP bP .nil pass0 (pa_cons (pv 0) (pa_cons (pv 4) pa_nil))))) (pw_or1 (pt_cmpR (or_sinP P w rfl rfl hr.units) (pv 4) (pv 2) rfl))))
            (pss_one (ps_raise rfl (takes_of rfl rfl rfl rfl) (pmk_oex TN iN tN GI hr2 bI .nil pass0 rfl mN (pa_cons (pv 3) pa_nil)))) pss_nil)
        (pss_one (ps_expr (pe_saddP P w rfl rfl hr.units (pv 2) (pa_cons (pv 4) pa_nil)))))))), ?_⟩
    refine ⟨_, rfl, x, d, rfl, o, fun H1 s1 => ⟨_, rfl, ?_⟩⟩
    have leave : ∀ {Hx : Hp} {i : Int} {a' : Addr}, Same H Hx → recBad ns (es.map (·.2)) d = some i → Hx a' = none → spXI Cr "at" [.ref a', .int i] (L2.upd Hx a' (exo a' Cr none)) (fun v H2 => v = .non ∧ ∃ (d : Addr) (fs : List (Str × V)), H2 a' = some (exo a' Cr (some d)) ∧ H2 d = some (exd d fs) ∧ Hx d = none ∧ E (.ref Cr) (some d) (L2.upd (del H2 a') d (.xd fs))) E0 := fun sx ei ha => mk_raise (R := fun c dd H' => E c dd H') ha fun dd H' h1 h2 h3 => kE _ ei dd H' (sx.free h1) h2 (sx.trans h3)
    rcases odT_cases o with ⟨r, it⟩ | ⟨a, xs, ds, rfl, hrow, al, r, it⟩
    · rw [r]
      exact iteT ⟨1, rfl, by show 1 ≤ 1000; decide, fun a' ha => leave s1 (by unfold recBad; rw [it]) ha⟩
    rw [r]
    have er : recBad ns (es.map (·.2)) d = (badFrom ns (es.map (·.2)) [] 0 ds).map fun i => (i : Int) := by unfold recBad; rw [it]
    have few := len ds it
    have hl := odLen al
    refine iteF ⟨rfl, fun q hq => ?_⟩
    have hrow1 := hrow.same s1
    have s12 : Same H1 (L2.upd H1 q (SetN P w q [])) := Same.new hq
    have e2 : (L2.upd H1 q (SetN P w q [])) q = some (SetN P w q []) := upd_same
    generalize L2.upd H1 q (SetN P w q []) = H2 at s12 e2 ⊢
    have hrow2 := hrow1.same s12
    refine ⟨_, rfl, a, xs, rfl, hrow2, fun J GG wk hG => for_it wk (fun i σ H' => (∃ v3 v4, σ = [some (.ref g), some (.ref a), some (.ref q), v3, v4]) ∧ Same H1 H' ∧ ∃ L, H' q = some (SetN P w q L) ∧ (∀ p ∈ L, PpH H' p.1 p.2) ∧ L.length ≤ i ∧ ∃ seen, (∀ k, k ∈ seen ↔ k ∈ L.map (·.2)) ∧ badFrom ns (es.map (·.2)) [] 0 ds = badFrom ns (es.map (·.2)) seen i (ds.drop i))
      ⟨⟨_, _, rfl⟩, s12, [], e2, (fun _ z => nomatch z), Nat.le_refl _, [], (fun k => Iff.rfl), rfl⟩ (fun i σ H' _ ⟨_, s, _⟩ => hG _ ((hrow1.eq s).trans (hrow1.eq s12).symm)) ?_ ?_⟩
    · rintro i y σ Ha Hb hi ⟨⟨v3, v4, rfl⟩, sA, L, eL, kL, lL, seen, sm, bd⟩ ⟨tt, x1, x2, rfl, ht, rfl, e1, e3⟩
      obtain rfl : V.int (i : Nat) = x1 := Option.some.inj e1
      have e3 : xs[i]? = some x2 := e3
      obtain ⟨dy, hdy, oy⟩ := odAt al e3
      have sT : Same Ha (L2.upd Ha tt (.tup [.int (i : Nat), x2])) := Same.new ht
      have eT : (L2.upd Ha tt (.tup [.int (i : Nat), x2])) tt = some (.tup [.int (i : Nat), x2]) := upd_same
      generalize L2.upd Ha tt (.tup [.int (i : Nat), x2]) = Hb at sT eT ⊢
      have sH := s1.trans (sA.trans sT)
      refine ⟨tt, _, rfl, SqT.of eT, rfl, _, _, rfl, _, _, rfl, rfl, ?_⟩
      refine ⟨_, rfl, _, rfl, g, ns, es, x2, dy, rfl, G.same sH, oy.same sH, _, rfl, ?_⟩
      have st := bad_step hdy bd
      cases c : prB ns (es.map (·.2)) dy with
      | false =>
        rw [c] at st
        exact iteT (iteT ⟨_, rfl, by show 1 ≤ 1000; decide, fun a' ha => leave sH (by rw [er, st]; rfl) ha⟩)
      | true =>
        rw [c] at st
        obtain ⟨b, rfl, pb⟩ := pr_str (oy.same sH) c
        have kL' : ∀ p ∈ L, PpH Hb p.1 p.2 := fun p hp => (kL p hp).same sT
        have eL' := sT _ _ eL
        refine iteF ⟨_, rfl, _, rfl, b, q, ppOf dy, L, rfl, rfl, eL', kL', pb, _, rfl, ?_⟩
        cases cm : decide (ppOf dy ∈ L.map (·.2)) with
        | true =>
          have : decide (ppOf dy ∈ seen) = true := decide_eq_true ((sm _).mpr (of_decide_eq_true cm))
          rw [this] at st
          exact iteT ⟨_, rfl, by show 1 ≤ 1000; decide, fun a' ha => leave sH (by rw [er, st]; rfl) ha⟩
        | false =>
          have nm : ppOf dy ∉ L.map (·.2) := of_decide_eq_false cm
          have : decide (ppOf dy ∈ seen) = false := decide_eq_false fun z => nm ((sm _).mp z)
          rw [this] at st
          refine iteF ⟨_, rfl, ⟨q, L, rfl, eL'⟩, _, rfl, q, b, ppOf dy, L, rfl, rfl, eL', kL', pb, by omega, fun L' c1 c2 => ?_⟩
          have pm := c2 nm
          refine ⟨⟨_, _, rfl⟩, Same.grow hq (sA.trans sT), L', upd_same, fun p hp => ?_, by rw [pm.length_eq, List.length_cons]; omega, ppOf dy :: seen, fun k => ?_, by rw [st]; rfl⟩
          · rcases List.mem_cons.mp (pm.mem_iff.mp hp) with rfl | hp
            · exact pb.upd eL' no_tup
            · exact (kL' p hp).upd eL' no_tup
          · rw [(pm.map (·.2)).mem_iff, List.map_cons, List.mem_cons, List.mem_cons, sm]
    · rintro σ Ha ⟨⟨v3, v4, rfl⟩, sA, L, eL, kL, lL, seen, sm, bd⟩
      refine kQ ?_ Ha (s1.trans sA)
      rw [er, bd, List.drop_of_length_le (by omega)]; rfl
end
end CP
namespace CP
open PySem L2
abbrev sPairs : Stmt := top 16
def spPairs (C : Addr) : Sp := fun vs H Q _ => ∃ (g : Addr) (ns : List Str) (es : List Ed), vs = [.ref g] ∧ GrAt C H g ns es ∧ es.length < 1000 ∧
  ∀ l H', H l = none → PrsAt H' l (pairsOf (es.map (·.2))) → Same H H' → Q (.ref l) H'
section
variable {P : Program} {w : World} {K : PySem.W.Frag} {mg : Str → Option Value} {base : Heap}
theorem scPairs : FnScope ["graph", "found", "at", "one", "other"] ["graph"] (defScope sPairs) := ⟨rfl, rfl, rfl, by decide +kernel, rfl, by decide +kernel, by decide +kernel⟩
theorem ok_pairs {f fA C : Addr} {fd fdA : FuncData} (F : Fun K "pairs" "pairs" sPairs f fd) (T : GTxt K mg C) (me : mg "enumerate" = none)
    (mA : mg "are_apart" = some (.ref fA)) (FA : FnOk P w K mg base CX0 1 fA fdA ["one", "other"] spApart) (kA : PySem.W.keepIn K (.ref fA) = true) (bA : Binds K fdA ["one", "other"] []) :
    FnOk P w K mg base CX0 2 f fd ["graph"] (spPairs C) := by
  refine F.ok scPairs (fun vs H Q E h => ?_) (fun cdv A outer s H vs Q E hr h => ?_)
  · obtain ⟨g, ns, es, rfl, _⟩ := h; rfl
  · obtain ⟨g, ns, es, rfl, G, few, k⟩ := h
    refine ⟨_, pss_cons (ps_set (i := 1) scPairs.nd rfl (Or.inl rfl) (pe_lst pa_nil))
      (pss_cons (ps_for PassesOwn.never rfl (pi_enumT (by rfl) me (pa_cons (pe_fld (pv 0) rfl) pa_nil)) (pg_tup rfl (pgs_cons (pg_name (i := 2) scPairs.nd rfl (Or.inl rfl)) (pgs_cons (pg_name (i := 3) scPairs.nd rfl (Or.inl rfl)) pgs_nil)))
        (pss_one (ps_for PassesOwn.never rfl (pi_tup (pe_slice sl_tup (pe_fld (pv 0) rfl) (po_some (pe_op op_add (pv 2) pe_int)) po_none)) (pg_name (i := 4) scPairs.nd rfl (Or.inl rfl))
          (pss_one (ps_if (pt_val (pe_call FA hr rfl mA kA bA .nil pass0 (pa_cons (pv 3) (pa_cons (pv 4) pa_nil))))
            (pss_one (ps_expr (pe_bm PySem.F.plainAttrs_list PySem.F.slot_list_append PySem.F.type_list_append mt_append (pv 1) (pa_cons (pe_tup (pa_cons (pv 3) (pa_cons (pv 4) pa_nil))) pa_nil)))) pss_nil)))))
      (pss_one (ps_ret (pv 1)))), ?_⟩
    refine ⟨by show 0 ≤ sizeLine; decide, fun l hl => ?_⟩
    have s0 : Same H (L2.upd H l (.lst [])) := Same.new hl
    have G0 := G.same s0
    obtain ⟨⟨dx, t1, t2, g1, g2, g3⟩, ge⟩ := id G
    have gl : ∀ {H' : Hp}, Same H H' → H' g = some (.ins C dx (gf t1 t2)) := fun s => s _ _ g1
    refine ⟨_, rfl, g, C, dx, _, _, rfl, gl s0, T.cl, T.nE, gf_e _ _, t2, _, rfl, SqT.of (s0 _ _ g3), ?_⟩
    refine for_it (walk_enumT (K := K) (a := t2) (xs := es.map fun p => V.ref p.1)) (fun i σ H' => ∃ v2 v3 v4, σ = [some (.ref g), some (.ref l), v2, v3, v4] ∧ Same H H' ∧ PrsAt H' l (upTo (rowP (es.map (·.2))) i))
      ⟨_, _, _, rfl, s0, PrsAt.nil upd_same⟩ (fun i σ H' _ ⟨_, _, _, _, s, _⟩ => SqT.of (s _ _ g3)) ?_ ?_
    · rintro i x σ H1 H2 hi ⟨v2, v3, v4, rfl, s1, R1⟩ ⟨tt, x1, x2, rfl, ht, rfl, e1, e2⟩
      rw [List.length_map] at hi
      obtain rfl : V.int (i : Nat) = x1 := Option.some.inj e1
      dsimp only at e2
      rw [List.getElem?_map, List.getElem?_eq_getElem hi] at e2
      obtain rfl : V.ref es[i].1 = x2 := Option.some.inj e2
      have s2 : Same H1 (L2.upd H1 tt (.tup [.int (i : Nat), .ref es[i].1])) := Same.new ht
      refine ⟨tt, _, rfl, SqT.of upd_same, rfl, _, _, rfl, _, _, rfl, rfl, ?_⟩
      have s12 := s1.trans s2
      refine ⟨_, rfl, g, C, dx, _, _, rfl, gl s12, T.cl, T.nE, gf_e _ _, _, rfl, _, _, rfl, rfl, _, rfl, t2, _, rfl, SqT.of (s12 _ _ g3), ?_, fun ts hts => ?_⟩
      · intro ⟨z, _⟩
        have e : ((i : Int) + 1) = ((i + 1 : Nat) : Int) := by omega
        rw [e, HT.sIx_nat, List.length_map] at z; omega
      rw [cut_drop]
      refine ⟨ts, rfl, ⟨_, SqT.of upd_same⟩, ?_⟩
      have R2 := (R1.kept s2).kept (Same.new (o := .tup ((es.map fun p => V.ref p.1).drop (i + 1))) hts)
      have mi : es[i] ∈ es := List.getElem_mem hi
      refine for_tup (K := K) (a := ts) (xs := (es.map fun p => V.ref p.1).drop (i + 1)) (fun j σ H' => ∃ v4, σ = [some (.ref g), some (.ref l), some (.int (i : Nat)), some (.ref es[i].1), v4] ∧ Same H H' ∧ H' ts = some (.tup ((es.map fun p => V.ref p.1).drop (i + 1))) ∧
        PrsAt H' l (upTo (rowP (es.map (·.2))) i ++ ((((es.map (·.2)).drop (i + 1)).take j).filter (apB es[i].2)).map fun f => (es[i].2, f)))
        ⟨v4, rfl, s12.trans (Same.new hts), upd_same, by simpa using R2⟩ (fun j σ H' _ ⟨_, _, _, q, _⟩ => SqT.of q) ?_ ?_
      · rintro j y σ H3 hj ⟨v4', rfl, s3, q3, R3⟩
        have lj : i + 1 + j < es.length := by
          have := (List.getElem?_eq_some_iff.mp hj).1
          rw [List.length_drop, List.length_map] at this; omega
        rw [List.getElem?_drop, List.getElem?_map, List.getElem?_eq_getElem lj] at hj
        obtain rfl : V.ref es[i + 1 + j].1 = y := Option.some.inj hj
        have mj : es[i + 1 + j] ∈ es := List.getElem_mem lj
        have ei : EdAt H3 es[i] := s3 _ _ (ge _ mi)
        have ej : EdAt H3 es[i + 1 + j] := s3 _ _ (ge _ mj)
        have tk : ((es.map (·.2)).drop (i + 1)).take (j + 1) = ((es.map (·.2)).drop (i + 1)).take j ++ [es[i + 1 + j].2] := by
          refine take_one ?_
          rw [List.getElem?_drop, List.getElem?_map, List.getElem?_eq_getElem lj]; rfl
        refine ⟨_, rfl, _, rfl, es[i].1, es[i + 1 + j].1, _, _, _, _, rfl, ei, ej, _, rfl, ?_⟩
        show if apB es[i].2 es[i + 1 + j].2 = true then _ else _
        by_cases c : apB es[i].2 es[i + 1 + j].2 = true
        · rw [c]
          refine iteT ⟨_, rfl, ?_⟩
          obtain ⟨qs, r1, r2, r3⟩ := id R3
          refine ⟨.inl ⟨rfl, _, SqL.of r1⟩, _, rfl, _, rfl, by show 2 ≤ sizeLine; decide, fun t ht3 => ?_⟩
          have s4 : Same H3 (L2.upd H3 t (.tup [.ref es[i].1, .ref es[i + 1 + j].1])) := Same.new ht3
          obtain ⟨zs, z1, z2, z3⟩ := (R3.kept s4).push (t := t) upd_same (s4 _ _ ei) (s4 _ _ ej)
          have small : zs.length < sizeLine := by
            rw [z2, List.length_append, List.length_map, sizeLine_eq]
            have b1 := upTo_len (m := es.length) (fun i => by have := row_len (es.map (·.2)) i; rw [List.length_map] at this; exact this) i
            have b2 : ((((es.map (·.2)).drop (i + 1)).take j).filter (apB es[i].2)).length ≤ es.length := by
              refine Nat.le_trans (List.length_filter_le _ _) (Nat.le_trans (List.length_take_le' _ _) ?_)
              rw [List.length_drop, List.length_map]; omega
            have b3 : i * es.length ≤ 1000 * 1000 := Nat.mul_le_mul (by omega) (by omega)
            omega
          refine ⟨l, zs, _, rfl, rfl, z1, small, ?_⟩
          refine ⟨_, rfl, Same.grow hl (s3.trans s4), ?_, ?_⟩
          · rw [upd_ne (ne_of q3 r1 (fun z => by cases z))]; exact s4 _ _ q3
          · rw [tk, List.filter_append, List.map_append]
            have e : [es[i + 1 + j].2].filter (apB es[i].2) = [es[i + 1 + j].2] := by simp [c]
            rw [e, ← List.append_assoc]; exact z3
        · have c' : apB es[i].2 es[i + 1 + j].2 = false := by simpa using c
          rw [c']
          refine iteF ⟨_, rfl, s3, q3, ?_⟩
          rw [tk, List.filter_append, List.map_append]
          have e : [es[i + 1 + j].2].filter (apB es[i].2) = [] := by simp [c']
          rw [e]; simpa using R3
      · rintro σ H3 ⟨v4', rfl, s3, q3, R3⟩
        refine ⟨_, _, _, rfl, s3, ?_⟩
        rw [List.take_of_length_le (by simp)] at R3
        have e : rowP (es.map (·.2)) i = (((es.map (·.2)).drop (i + 1)).filter (apB es[i].2)).map fun f => (es[i].2, f) := by
          unfold rowP
          rw [List.getElem?_map, List.getElem?_eq_getElem hi]; rfl
        show PrsAt H3 l (upTo (rowP (es.map (·.2))) i ++ rowP (es.map (·.2)) i)
        rw [e]; exact R3
    · rintro σ H1 ⟨v2, v3, v4, rfl, s1, R1⟩
      rw [List.length_map] at R1
      refine ⟨_, rfl, k l H1 hl ?_ s1⟩
      unfold pairsOf; rw [List.length_map]; exact R1
end
end CP
/-! records as values -/
namespace CP
open PySem PySem.Spec PyProof.Rows L2
/-! ### pairs as values -/
theorem upTo_succ (r : Nat → List (E2 × E2)) : ∀ n, upTo r (n + 1) = r 0 ++ upTo (fun i => r (i + 1)) n
  | 0 => by simp [upTo]
  | n + 1 => by
    show upTo r (n + 1) ++ r (n + 1) = _
    rw [upTo_succ r n, List.append_assoc]; rfl
theorem pairsOf_cons (e : E2) (es : List E2) : pairsOf (e :: es) = ((es.filter (apB e)).map fun f => (e, f)) ++ pairsOf es := by
  unfold pairsOf
  rw [List.length_cons, upTo_succ]
  congr 1
theorem pairs_mem : ∀ {es : List E2} {p : E2 × E2}, p ∈ pairsOf es → p.1 ∈ es ∧ p.2 ∈ es ∧ apB p.1 p.2 = true
  | [], p, h => nomatch h
  | e :: es, p, h => by
    rw [pairsOf_cons] at h
    rcases List.mem_append.mp h with h | h
    · obtain ⟨f, hf, rfl⟩ := List.mem_map.mp h
      obtain ⟨a, b⟩ := List.mem_filter.mp hf
      exact ⟨List.mem_cons_self, List.mem_cons_of_mem _ a, b⟩
    · obtain ⟨a, b, c⟩ := pairs_mem h
      exact ⟨List.mem_cons_of_mem _ a, List.mem_cons_of_mem _ b, c⟩
abbrev AscE (es : List E2) : Prop := es.Pairwise (fun e f => ltE e f = true)
theorem pairs_lt : ∀ {es : List E2} {p : E2 × E2}, AscE es → p ∈ pairsOf es → ltE p.1 p.2 = true
  | [], p, _, h => nomatch h
  | e :: es, p, hs, h => by
    obtain ⟨h1, h2⟩ := List.pairwise_cons.mp hs
    rw [pairsOf_cons] at h
    rcases List.mem_append.mp h with h | h
    · obtain ⟨f, hf, rfl⟩ := List.mem_map.mp h
      exact h1 f (List.mem_filter.mp hf).1
    · exact pairs_lt h2 h
theorem pairs_has : ∀ {es : List E2} {e f : E2}, AscE es → e ∈ es → f ∈ es → ltE e f = true → apB e f = true → (e, f) ∈ pairsOf es
  | [], e, f, _, h, _, _, _ => nomatch h
  | x :: es, e, f, hs, he, hf, lt, ap => by
    obtain ⟨h1, h2⟩ := List.pairwise_cons.mp hs
    rw [pairsOf_cons]
    rcases List.mem_cons.mp he with ex | he'
    · rcases List.mem_cons.mp hf with fx | hf'
      · rw [ex, fx, ltE_irrefl] at lt; cases lt
      · rw [ex] at ap ⊢
        exact List.mem_append_left _ (List.mem_map.mpr ⟨f, List.mem_filter.mpr ⟨hf', ap⟩, rfl⟩)
    · rcases List.mem_cons.mp hf with fx | hf'
      · rw [fx, ltE_asymm (h1 e he')] at lt; cases lt
      · exact List.mem_append_right _ (pairs_has h2 he' hf' lt ap)
theorem pairs_asc : ∀ {es : List E2}, AscE es → (pairsOf es).Pairwise (fun p q => ltP p q = true)
  | [], _ => .nil
  | e :: es, hs => by
    obtain ⟨h1, h2⟩ := List.pairwise_cons.mp hs
    rw [pairsOf_cons]
    refine List.pairwise_append.mpr ⟨?_, pairs_asc h2, fun p hp q hq => ?_⟩
    · rw [List.pairwise_map]
      refine List.Pairwise.imp_of_mem (fun {a b} _ _ h => ?_) (h2.filter (apB e))
      unfold ltP
      rw [if_pos rfl]
      by_cases c : a = b
      · rw [c, ltE_irrefl] at h; cases h
      · rw [if_neg c]; exact h
    · obtain ⟨f, hf, rfl⟩ := List.mem_map.mp hp
      have m := (pairs_mem hq).1
      have lt := h1 _ m
      unfold ltP
      rw [if_neg (fun z : e = q.1 => by rw [← z, ltE_irrefl] at lt; cases lt)]
      exact lt
theorem ltP_irrefl (p : E2 × E2) : ltP p p = false := by simp [ltP]
theorem asc_nd {l : List (E2 × E2)} (h : l.Pairwise (fun p q => ltP p q = true)) : l.Nodup := h.imp fun {a b} lt e => by rw [e, ltP_irrefl] at lt; cases lt
theorem pr_has {ns : List Str} {es : List E2} {d : PyData} (hs : AscE es) (h : prB ns es d = true) : ppOf d ∈ pairsOf es := by
  unfold prB at h; split at h
  · rename_i a b
    simp only [Bool.and_eq_true] at h
    have mem : ∀ {x : PyData}, edB ns es x = true → edOf x ∈ es := fun {x} hx => by
      unfold edB at hx; split at hx
      · simp only [Bool.and_eq_true] at hx
        exact of_decide_eq_true hx.2
      · cases hx
    exact pairs_has hs (mem h.1) (mem h.2.1) h.2.2.1 h.2.2.2
  · cases h
/-! ### what is held -/
def itemsD (d : PyData) : List PyData := (itD d).getD []
theorem PrAt.pp {H : Hp} {q : Pr} (h : PrAt H q) : PpH H q.1 (prV q) := ⟨_, _, h.ob, h.one, h.two⟩
theorem bad_all {ns : List Str} {es : List E2} : ∀ {ds : List PyData} {seen : List (E2 × E2)} {i : Nat}, badFrom ns es seen i ds = none → (∀ d ∈ ds, prB ns es d = true) ∧ (ds.map ppOf).Nodup ∧ ∀ d ∈ ds, ppOf d ∉ seen
  | [], _, _, _ => ⟨(fun _ z => nomatch z), List.nodup_nil, fun _ z => nomatch z⟩
  | d :: ds, seen, i, h => by
    unfold badFrom at h
    split at h
    · rename_i c
      simp only [Bool.and_eq_true, Bool.not_eq_true', decide_eq_false_iff_not] at c
      obtain ⟨a, b, e⟩ := bad_all h
      refine ⟨fun x hx => ?_, ?_, fun x hx => ?_⟩
      · rcases List.mem_cons.mp hx with rfl | hx
        · exact c.1
        · exact a x hx
      · rw [List.map_cons, List.nodup_cons]
        refine ⟨fun z => ?_, b⟩
        obtain ⟨y, hy, ey⟩ := List.mem_map.mp z
        exact e y hy (by rw [ey]; exact List.mem_cons_self)
      · rcases List.mem_cons.mp hx with rfl | hx
        · exact c.2
        · exact fun z => e x hx (List.mem_cons_of_mem _ z)
    · cases h
theorem rec_row {ns : List Str} {es : List E2} {H : Hp} {x : V} {d : PyData} (o : Od H x d) (h : recBad ns es d = none) : ∃ a xs, x = .ref a ∧ RowAt H a xs ∧ OdAll H xs (itemsD d) ∧ (∀ e ∈ itemsD d, prB ns es e = true) ∧ ((itemsD d).map ppOf).Nodup := by
  rcases od_cases o with ⟨r, it⟩ | ⟨a, xs, ds, rfl, hrow, al, r, it⟩
  · unfold recBad at h; rw [it] at h; cases h
  · unfold recBad at h; rw [it] at h
    have h' : badFrom ns es [] 0 ds = none := by
      cases q : badFrom ns es [] 0 ds with
      | none => rfl
      | some i => dsimp only at h; rw [q] at h; cases h
    obtain ⟨b1, b2, _⟩ := bad_all h'
    have e : itemsD d = ds := by unfold itemsD; rw [it]; rfl
    rw [e]
    exact ⟨a, xs, rfl, hrow, al, b1, b2⟩
end CP
/-! _law_pairs of this row -/
namespace CP
open PySem L2
abbrev sLawPairs : Stmt := top 74
def g1B (e f : E2) : Bool := ltE e f && !decide (e.1 ∈ [f.1, f.2])
def g2B (e f : E2) : Bool := !decide (e.2 ∈ [f.1, f.2])
/-- the pairs of the i-th edge and the greater ones -/
def rowL (es : List E2) (i : Nat) : List (E2 × E2) := match es[i]? with
  | none => []
  | some e => ((es.filter (g1B e)).filter (g2B e)).map fun f => (e, f)
theorem filter_after {es : List E2} (h : es.Pairwise (fun e f => ltE e f = true)) {i : Nat} {e : E2} (hi : es[i]? = some e) : es.filter (ltE e) = es.drop (i + 1) := by
  induction es generalizing i with
  | nil => simp at hi
  | cons f es ih =>
    obtain ⟨h1, h2⟩ := List.pairwise_cons.mp h
    cases i with
    | zero =>
      obtain rfl : f = e := Option.some.inj hi
      rw [List.filter_cons, if_neg (by rw [ltE_irrefl]; decide)]
      exact List.filter_eq_self.mpr fun x hx => h1 x hx
    | succ i =>
      have hi' : es[i]? = some e := hi
      rw [List.filter_cons, if_neg (by rw [ltE_asymm (h1 e (List.mem_of_getElem? hi'))]; decide)]
      exact ih h2 hi'
theorem ap_test (e f : E2) : (!decide (e.1 ∈ [f.1, f.2]) && !decide (e.2 ∈ [f.1, f.2])) = apB e f := by
  unfold apB
  by_cases c1 : e.1 = f.1 <;> by_cases c2 : e.1 = f.2 <;> by_cases c3 : e.2 = f.1 <;> by_cases c4 : e.2 = f.2 <;> simp [c1, c2, c3, c4]
theorem rows_same {es : List E2} (h : es.Pairwise (fun e f => ltE e f = true)) (i : Nat) : rowL es i = rowP es i := by
  unfold rowL rowP
  cases q : es[i]? with
  | none => rfl
  | some e =>
    show ((es.filter (g1B e)).filter (g2B e)).map _ = ((es.drop (i + 1)).filter (apB e)).map _
    rw [← filter_after h q, List.filter_filter, List.filter_filter]
    congr 1
    refine List.filter_congr fun x _ => ?_
    rw [← ap_test]
    unfold g1B g2B
    cases ltE e x <;> cases decide (e.1 ∈ [x.1, x.2]) <;> cases decide (e.2 ∈ [x.1, x.2]) <;> rfl
theorem upTo_congr {r r' : Nat → List (E2 × E2)} (h : ∀ i, r i = r' i) : ∀ n, upTo r n = upTo r' n
  | 0 => rfl
  | n + 1 => by show upTo r n ++ r n = upTo r' n ++ r' n; rw [upTo_congr h n, h n]
theorem PrsAt.ext {H : Hp} {l m : Addr} {es fs : List (E2 × E2)} (h : PrsAt H l es) (hm : PrsAt H m fs) : ∃ zs ys : List V, H l = some (.lst zs) ∧ H m = some (.lst ys) ∧ zs.length = es.length ∧ ys.length = fs.length ∧ PrsAt (L2.upd H l (.lst (zs ++ ys))) l (es ++ fs) := by
  obtain ⟨ks, a, b, c⟩ := h
  obtain ⟨js, a2, b2, c2⟩ := hm
  refine ⟨_, _, a, a2, by rw [List.length_map, ← c, List.length_map], by rw [List.length_map, ← c2, List.length_map], ks ++ js, ?_, fun p hp => ?_, ?_⟩
  · rw [upd_same, List.map_append]
  · rcases List.mem_append.mp hp with hp | hp
    · exact (b p hp).keepL a
    · exact (b2 p hp).keepL a
  · rw [List.map_append, c, c2]
def spLawPairs : Sp := fun vs H Q _ => ∃ (b : Addr) (ks : List Ed), vs = [.ref b] ∧ H b = some (.lst (ks.map fun p => V.ref p.1)) ∧ (∀ p ∈ ks, EdAt H p) ∧ ks.length ≤ 18 ∧
  ∀ l H', H l = none → PrsAt H' l (upTo (rowL ((sortE ks).map (·.2))) (sortE ks).length) → Same H H' → Q (.ref l) H'
theorem op_notIn2 {X : Cx} (K : PySem.W.Frag) (h : X.K = K) : OpR X (compareOp .NotIn) (rIn K true) := h ▸ op_notIn_seq
theorem ix_tup2 {X : Cx} (K : PySem.W.Frag) (h : X.K = K) : IxR X (rIxT K) := h ▸ ix_tup
section
variable {P : Program} {w : World} {K : PySem.W.Frag} {mg : Str → Option Value} {base : Heap}
theorem rowL_len (es : List E2) (i : Nat) : (rowL es i).length ≤ es.length := by
  unfold rowL
  cases es[i]? with
  | none => exact Nat.zero_le _
  | some e =>
    show (((es.filter (g1B e)).filter (g2B e)).map fun f => (e, f)).length ≤ _
    rw [List.length_map]
    exact Nat.le_trans (List.length_filter_le _ _) (List.length_filter_le _ _)
theorem scLP : FnScope ["_law_edges", "_law_found", "_law_one_here", "_law_later", "_law_other"] ["_law_edges"] (defScope sLawPairs) := ⟨rfl, rfl, rfl, by decide +kernel, rfl, by decide +kernel, by decide +kernel⟩
theorem ok_lawpairs {f : Addr} {fd : FuncData} (F : Fun K "_law_pairs" "_law_pairs" sLawPairs f fd) (ms : mg "sorted" = none) : FnOk P w K mg base CX0 1 f fd ["_law_edges"] spLawPairs := by
  refine F.ok scLP (fun vs H Q E h => ?_) (fun cdv A outer s H vs Q E hr h => ?_)
  · obtain ⟨b, ks, rfl, _⟩ := h; rfl
  · obtain ⟨b, ks, rfl, hb, hed, h18, k⟩ := h
    refine ⟨_, pss_cons (ps_set (i := 1) scLP.nd rfl (Or.inl rfl) (pe_lst pa_nil))
      (pss_cons (ps_for PassesOwn.never rfl (pi_list (pe_callB (cr_sortE hr.units) (by rfl) ms (by decide +kernel) (pa_cons (pv 0) pa_nil))) (pg_name (i := 2) scLP.nd rfl (Or.inr rfl))
        (pss_cons (ps_setLc (i := 3) (own := [("_law_other", 4)]) (g := gName 4) rfl scLP.nd rfl rfl (sw_true rfl rfl rfl (by decide +kernel)) (pi_list (pe_callB (cr_sortE hr.units) (by rfl) ms (by decide +kernel) (pa_cons (pv 0) pa_nil)))
          (blkOk_by (own := [("_law_other", 4)]) (N := ["_law_edges", "_law_found", "_law_one_here", "_law_later", "_law_other"]) (sc := defScope sLawPairs) (by decide +kernel))
          (fun _ _ _ _ _ => pg_name (i := 4) scLP.nd rfl (Or.inl rfl)) (fun _ _ _ _ _ => pts_one (PW.pt (pw_and (pt_cmpR (op_ltE hr.units) (pv 2) (pv 4) (nomark _)) (pw_and1 (pt_cmpR (op_notIn2 K rfl) (pe_ix (ix_tup2 K rfl) (pv 2) pe_int (fun _ _ => rfl)) (pv 4) rfl))))) (fun _ _ _ _ _ => pv 4))
        (pss_one (ps_expr (pe_bm PySem.F.plainAttrs_list PySem.F.slot_list_extend PySem.F.type_list_extend mt_extend (pv 1) (pa_cons (pe_lc (own := [("_law_other", 4)]) (g := gName 4) rfl scLP.nd (pi_list (pv 3))
          (blkOk_by (own := [("_law_other", 4)]) (N := ["_law_edges", "_law_found", "_law_one_here", "_law_later", "_law_other"]) (sc := defScope sLawPairs) (by decide +kernel))
          (fun _ _ _ _ _ => pg_name (i := 4) scLP.nd rfl (Or.inl rfl)) (fun _ _ _ _ _ => pts_one (pt_cmpR (op_notIn2 K rfl) (pe_ix (ix_tup2 K rfl) (pv 2) pe_int (fun _ _ => rfl)) (pv 4) rfl)) (fun _ _ _ _ _ => pe_tup (pa_cons (pv 2) (pa_cons (pv 4) pa_nil)))) pa_nil))))))
      (pss_one (ps_ret (pv 1)))), ?_⟩
    refine ⟨by show 0 ≤ sizeLine; decide, fun l hl => ?_⟩
    have s0 : Same H (L2.upd H l (.lst [])) := Same.new hl
    generalize hS : sortE ks = S
    have pS : S.Perm ks := by rw [← hS]; exact sortE_perm ks
    have Sl : S.length ≤ 18 := by rw [pS.length_eq]; exact h18
    have Sed : ∀ {H' : Hp}, Same H H' → ∀ p ∈ S, EdAt H' p := fun s p hp => s _ _ (hed p (pS.mem_iff.mp hp))
    refine ⟨_, rfl, b, ks, rfl, s0 _ _ hb, fun p hp => s0 _ _ (hed p hp), by omega, fun sl hsl => ?_⟩
    rw [hS]
    have s1 : Same H (L2.upd (L2.upd H l (.lst [])) sl (.lst (S.map fun p => V.ref p.1))) := s0.trans (Same.new hsl)
    refine ⟨sl, rfl, ⟨_, SqL.of upd_same⟩, for_list (K := K) (a := sl) (xs := S.map fun p => V.ref p.1) (fun i σ H' => ∃ v2 v3, σ = [some (.ref b), some (.ref l), v2, v3, none] ∧ Same H H' ∧ H' sl = some (.lst (S.map fun p => V.ref p.1)) ∧ PrsAt H' l (upTo (rowL (S.map (·.2))) i))
      ⟨_, _, rfl, s1, upd_same, PrsAt.nil (by rw [upd_ne (ne_of_none upd_same hsl)]; exact upd_same)⟩ (fun i σ H' _ ⟨_, _, _, _, q, _⟩ => SqL.of q) ?_ ?_⟩
    · rintro i x σ H2 hi ⟨v2, v3, rfl, s2, q2, R2⟩
      have li : i < S.length := by have := (List.getElem?_eq_some_iff.mp hi).1; rw [List.length_map] at this; exact this
      rw [List.getElem?_map, List.getElem?_eq_getElem li] at hi
      obtain rfl : V.ref S[i].1 = x := Option.some.inj hi
      have mi : S[i] ∈ S := List.getElem_mem li
      generalize hp : S[i] = p at mi
      refine ⟨_, rfl, b, ks, rfl, s2 _ _ hb, fun p hp => s2 _ _ (hed p hp), by omega, fun sm hsm => ?_⟩
      rw [hS]
      have s3 : Same H2 (L2.upd H2 sm (.lst (S.map fun p => V.ref p.1))) := Same.new hsm
      generalize hH3 : L2.upd H2 sm (.lst (S.map fun p => V.ref p.1)) = H3 at s3
      have q3 : H3 sm = some (.lst (S.map fun p => V.ref p.1)) := by rw [← hH3]; exact upd_same
      have s23 := s2.trans s3
      refine ⟨sm, rfl, ⟨_, SqL.of q3⟩, fun D hD => lc_list (K := K) (a := sm) (xs := S.map fun p => V.ref p.1) (fun j H' => Same H3 H' ∧ H' D = some (.lst (((S.take j).filter fun q => g1B p.2 q.2).map fun q => V.ref q.1)))
        ⟨Same.new hD, upd_same⟩ (fun j H' _ ⟨s, _⟩ => SqL.of (s _ _ q3)) ?_ ?_⟩
      · rintro j y H4 hj ⟨s4, e4⟩
        have lj : j < S.length := by have := (List.getElem?_eq_some_iff.mp hj).1; rw [List.length_map] at this; exact this
        rw [List.getElem?_map, List.getElem?_eq_getElem lj] at hj
        obtain rfl : V.ref S[j].1 = y := Option.some.inj hj
        have mj : S[j] ∈ S := List.getElem_mem lj
        have tk : S.take (j + 1) = S.take j ++ [S[j]] := take_one (List.getElem?_eq_getElem lj)
        have ep := Sed (s23.trans s4) p mi
        have eq := Sed (s23.trans s4) S[j] mj
        have two : ∀ z : Str, inV (.str z) [.str S[j].2.1, .str S[j].2.2] = decide (z ∈ [S[j].2.1, S[j].2.2]) := fun z => inV_txt z [S[j].2.1, S[j].2.2]
        have hno : g1B p.2 S[j].2 = false → H4 D = some (.lst (((S.take (j + 1)).filter fun q => g1B p.2 q.2).map fun q => V.ref q.1)) := fun c => by
          rw [tk, List.filter_append]
          have q : [S[j]].filter (fun q => g1B p.2 q.2) = [] := by simp [c]
          rw [q, List.append_nil]; exact e4
        refine ⟨rfl, _, rfl, _, rfl, p, S[j], rfl, rfl, ep, eq, _, rfl, ?_⟩
        cases c0 : ltE p.2 S[j].2 with
        | false => exact iteF (iteF ⟨s4, hno (by unfold g1B; rw [c0]; rfl)⟩)
        | true =>
          refine iteT ⟨_, rfl, p.1, _, _, _, rfl, rfl, SqT.of ep, (atI_nat (j := 0) rfl), _, rfl, S[j].1, _, rfl, .inr (SqT.of eq), rfl, rfl, _, rfl, ?_⟩
          show if (!inV (.str p.2.1) [.str S[j].2.1, .str S[j].2.2]) = true then _ else _
          rw [two]
          cases c1 : decide (p.2.1 ∈ [S[j].2.1, S[j].2.2]) with
          | true => exact iteF ⟨s4, hno (by unfold g1B; rw [c0, c1]; rfl)⟩
          | false =>
            have c : g1B p.2 S[j].2 = true := by unfold g1B; rw [c0, c1]; rfl
            refine iteT ⟨_, rfl, _, e4, ?_, Same.grow hD s4, ?_⟩
            · rw [List.length_map, sizeLine_eq]
              have := List.length_filter_le (fun q : Ed => g1B p.2 q.2) (S.take j)
              rw [List.length_take] at this; omega
            · rw [upd_same, tk, List.filter_append]
              have q : [S[j]].filter (fun q => g1B p.2 q.2) = [S[j]] := by simp [c]
              rw [q, List.map_append]; rfl
      · rintro H4 ⟨s4, e4⟩
        rw [List.length_map, List.take_length] at e4
        have s24 := s23.trans s4
        have H24 : Same H2 H4 := s3.trans s4
        obtain ⟨_, r1, _⟩ := R2.kept H24
        refine ⟨_, rfl, .inl ⟨rfl, _, SqL.of r1⟩, _, rfl, D, rfl, ⟨_, SqL.of e4⟩, fun D2 hD2 => lc_list (K := K) (a := D) (xs := (S.filter fun q => g1B p.2 q.2).map fun q => V.ref q.1) (fun j H' => Same H4 H' ∧ PrsAt H' D2 ((((S.filter fun q => g1B p.2 q.2).take j).filter fun q => g2B p.2 q.2).map fun q => (p.2, q.2)))
          ⟨Same.new hD2, PrsAt.nil upd_same⟩ (fun j H' _ ⟨s, _⟩ => SqL.of (s _ _ e4)) ?_ ?_⟩
        · rintro j y H5 hj ⟨s5, R5⟩
          generalize hJ : (S.filter fun q => g1B p.2 q.2) = J at hj R5 ⊢
          have Jsub : ∀ q ∈ J, q ∈ S := fun q hq => by rw [← hJ] at hq; exact (List.mem_filter.mp hq).1
          have Jlen : J.length ≤ 18 := by rw [← hJ]; exact Nat.le_trans (List.length_filter_le _ _) Sl
          have lj : j < J.length := by have := (List.getElem?_eq_some_iff.mp hj).1; rw [List.length_map] at this; exact this
          rw [List.getElem?_map, List.getElem?_eq_getElem lj] at hj
          obtain rfl : V.ref J[j].1 = y := Option.some.inj hj
          have mj : J[j] ∈ J := List.getElem_mem lj
          have tk : J.take (j + 1) = J.take j ++ [J[j]] := take_one (List.getElem?_eq_getElem lj)
          have ep := Sed (s24.trans s5) p mi
          have eq := Sed (s24.trans s5) J[j] (Jsub _ mj)
          have two : ∀ z : Str, inV (.str z) [.str J[j].2.1, .str J[j].2.2] = decide (z ∈ [J[j].2.1, J[j].2.2]) := fun z => inV_txt z [J[j].2.1, J[j].2.2]
          refine ⟨rfl, _, rfl, p.1, _, _, _, rfl, rfl, SqT.of ep, (atI_nat (j := 1) rfl), _, rfl, J[j].1, _, rfl, .inr (SqT.of eq), rfl, rfl, _, rfl, ?_⟩
          show if (!inV (.str p.2.2) [.str J[j].2.1, .str J[j].2.2]) = true then _ else _
          rw [two]
          cases c1 : decide (p.2.2 ∈ [J[j].2.1, J[j].2.2]) with
          | false =>
            have c : g2B p.2 J[j].2 = true := by unfold g2B; rw [c1]; rfl
            refine iteT ⟨_, rfl, _, rfl, by show 2 ≤ sizeLine; decide, fun t ht => ?_⟩
            have s6 : Same H5 (L2.upd H5 t (.tup [.ref p.1, .ref J[j].1])) := Same.new ht
            obtain ⟨zs, z1, z2, z3⟩ := (R5.kept s6).push (t := t) upd_same (s6 _ _ ep) (s6 _ _ eq)
            refine ⟨zs, z1, ?_, Same.grow hD2 (s5.trans s6), ?_⟩
            · rw [z2, List.length_map, sizeLine_eq]
              have := List.length_filter_le (fun q : Ed => g2B p.2 q.2) (J.take j)
              rw [List.length_take] at this; omega
            · rw [tk, List.filter_append, List.map_append]
              have q : [J[j]].filter (fun q => g2B p.2 q.2) = [J[j]] := by simp [c]
              rw [q]; exact z3
          | true =>
            have c' : g2B p.2 J[j].2 = false := by unfold g2B; rw [c1]; rfl
            refine iteF ⟨s5, ?_⟩
            rw [tk, List.filter_append]
            have q : [J[j]].filter (fun q => g2B p.2 q.2) = [] := by simp [c']
            rw [q, List.append_nil]; exact R5
        · rintro H5 ⟨s5, R5⟩
          rw [List.length_map, List.take_length] at R5
          have er : rowL (S.map (·.2)) i = ((S.filter fun q => g1B p.2 q.2).filter fun q => g2B p.2 q.2).map fun q => (p.2, q.2) := by
            unfold rowL
            rw [List.getElem?_map, List.getElem?_eq_getElem li, hp]
            show (((S.map (·.2)).filter (g1B p.2)).filter (g2B p.2)).map (fun f => (p.2, f)) = _
            rw [List.filter_map, List.filter_map, List.map_map]; rfl
          rw [← er] at R5
          obtain ⟨zs, ys, z1, z2, z3, z4, z5⟩ := ((R2.kept H24).kept s5).ext R5
          refine ⟨l, D2, zs, ys, rfl, rfl, z1, z2, ?_, ?_⟩
          · rw [z3, z4, sizeLine_eq]
            have a1 := upTo_len (m := S.length) (fun i => by have := rowL_len (S.map (·.2)) i; rw [List.length_map] at this; exact this) i
            have a2 := rowL_len (S.map (·.2)) i
            rw [List.length_map] at a2
            have a3 : i * S.length ≤ 18 * 18 := Nat.mul_le_mul (by omega) Sl
            omega
          · refine ⟨_, _, rfl, Same.grow hl (s24.trans s5), ?_, z5⟩
            have q5 := s5 _ _ (H24 _ _ q2)
            have nl : sl ≠ l := fun z => by
              have := hsl
              rw [z, upd_same] at this; cases this
            rw [upd_ne nl]; exact q5
    · rintro σ H2 ⟨v2, v3, rfl, s2, q2, R2⟩
      rw [List.length_map] at R2
      exact ⟨_, rfl, k l H2 hl (by rw [hS]; exact R2) s2⟩
end
end CP
/-! _law_subset -/
namespace CP
open PySem PySem.Spec PyProof.Rows L2
abbrev sSubset : Stmt := top 75
theorem But.sm {a : Addr} {H H1 H2 : Hp} (B : But a H H1) (s : Same H1 H2) : But a H H2 := B.trans (But.of_same s)
def spSubset : Sp := fun vs H Q _ => ∃ (a b : Addr) (xs : List V), vs = [.ref a, .ref b] ∧ Src H a ∧ a ≠ b ∧ H b = some (.lst xs) ∧ (∀ x ∈ xs, Item H x) ∧ xs.length < 1000 ∧
  ∀ p ys H', ys.Sublist xs → H p = none → H' p = some (.lst ys) → Src H' a → But a H H' → Q (.ref p) H'
section
variable {P : Program} {w : World} {K : PySem.W.Frag} {mg : Str → Option Value} {base : Heap}
abbrev nSubset : List Str := ["_law_source", "_law_items", "_law_way", "_law_item"]
theorem scSubset : FnScope nSubset ["_law_source", "_law_items"] (defScope sSubset) := ⟨rfl, rfl, rfl, by decide +kernel, rfl, by decide +kernel, by decide +kernel⟩
theorem ok_subset {f fN fO : Addr} {fd fdN fdO : FuncData} (F : Fun K "_law_subset" "_law_subset" sSubset f fd) (ml : mg "list" = none)
    (mN : mg "_law_next" = some (.ref fN)) (GN : FnOk P w K mg base CX0 1 fN fdN ["_law_source", "_law_many"] spNext) (kN : PySem.W.keepIn K (.ref fN) = true) (bN : Binds K fdN ["_law_source", "_law_many"] [])
    (mO : mg "_law_one" = some (.ref fO)) (GO : FnOk P w K mg base CX0 2 fO fdO ["_law_source", "_law_some"] (spOne K)) (kO : PySem.W.keepIn K (.ref fO) = true) (bO : Binds K fdO ["_law_source", "_law_some"] []) :
    FnOk P w K mg base CX0 3 f fd ["_law_source", "_law_items"] spSubset := by
  refine F.ok scSubset (fun vs H Q E h => ?_) (fun cdv A outer s H vs Q E hr h => ?_)
  · obtain ⟨a, b, xs, rfl, _⟩ := h; rfl
  · obtain ⟨a, b, xs, rfl, S0, ab, hb, it, few, k⟩ := h
    have hr1 : Room 1 _ := hr.mono (by decide)
    refine ⟨_, pss_cons (ps_set (i := 2) scSubset.nd rfl (Or.inl rfl) (pe_call GN hr1 rfl mN kN bN .nil pass0 (pa_cons (pv 0) (pa_cons pe_int pa_nil))))
      (pss_cons (ps_if (PW.pt (pw_or (pt_cmpR op_eq (pv 2) pe_int (nomark _)) (pw_or1 (pt_cmpR (op_eqD hr.units) (pv 1) (pe_lst pa_nil) (nomark _))))) (pss_one (ps_ret (pe_lst pa_nil))) pss_nil)
      (pss_cons (ps_if (pt_cmpR op_eq (pv 2) pe_int (nomark _)) (pss_one (ps_ret (pe_callTy call_list_of (by rfl) ml (by decide +kernel) (pa_cons (pv 1) pa_nil)))) pss_nil)
      (pss_cons (ps_if (pt_cmpR op_eq (pv 2) pe_int (nomark _)) (pss_one (ps_ret (pe_lst (pa_cons (pe_call GO hr rfl mO kO bO .nil pass0 (pa_cons (pv 0) (pa_cons (pv 1) pa_nil))) pa_nil)))) pss_nil)
      (pss_one (ps_ret (pe_lc (own := [("_law_item", 3)]) (g := gName 3) rfl scSubset.nd (pi_list (pv 1))
          (blkOk_by (own := [("_law_item", 3)]) (N := nSubset) (sc := defScope sSubset) (by decide +kernel))
          (fun _ _ _ _ _ => pg_name (i := 3) scSubset.nd rfl (Or.inl rfl)) (fun _ _ _ _ _ => pts_one (pt_cmpR op_eq (pe_call GN hr1 rfl mN kN bN .nil pass0 (pa_cons (pv 0) (pa_cons pe_int pa_nil))) pe_int (nomark _))) (fun _ _ _ _ _ => pv 3))))))), ?_⟩
    refine ⟨_, rfl, a, 5, rfl, S0, by decide, by decide, fun r H1 r0 r1 S1 B1 => ?_⟩
    have hb1 := B1 b _ ab.symm hb
    have it1 : ∀ x ∈ xs, Item H1 x := fun x hx => (it x hx).but S0 B1
    have nil0 : ∀ {H2 : Hp} {l : Addr}, But a H H2 → Src H2 a → H2 l = none → Q (.ref l) (L2.upd H2 l (.lst [])) := fun {H2 l} B S hl => k l [] _ (List.nil_sublist _) (B.none (S.ne hl) hl) upd_same (S.but (Same.new hl)) (B.sm (Same.new hl))
    refine ⟨_, rfl, rfl, _, rfl, ?_⟩
    cases c0 : decide (V.int r = V.int 0) with
    | true => exact iteT (iteT ⟨by show 0 ≤ sizeLine; decide, fun l hl => nil0 B1 S1 hl⟩)
    | false =>
      refine iteF ⟨_, rfl, by show 0 ≤ sizeLine; decide, fun q hq => ?_⟩
      have s2 : Same H1 (L2.upd H1 q (.lst [])) := Same.new hq
      have e2 : (L2.upd H1 q (.lst [])) q = some (.lst []) := upd_same
      generalize L2.upd H1 q (.lst []) = H2 at s2 e2 ⊢
      have S2 := S1.but s2
      have B2 := B1.sm s2
      have hb2 := s2 _ _ hb1
      obtain ⟨ds, d1, d2, d3, d4⟩ := items_dp (K := K) (fun x hx => (it1 x hx).but S1 (But.of_same s2))
      refine ⟨.list ds, .list [], .lst (SqL.of hb2) d1, .lst (SqL.of e2) .nil, ?_, by decide, _, rfl, ?_⟩
      · have c1 : (PyData.list ds).canLay0 = true := by simp [PyData.canLay0, d3]
        have c2 : (PyData.list ds).depth = PyData.depthAll ds + 1 := by first | rfl | simp [PyData.depth, Nat.add_comm]
        unfold SeqAt.shaped; rw [c1, c2]; simp; omega
      rw [eqv_nil]
      cases c1 : decide (ds = []) with
      | true => exact iteT ⟨by show 0 ≤ sizeLine; decide, fun l hl => nil0 B2 S2 hl⟩
      | false =>
        have xpos : 0 < xs.length := by
          have := of_decide_eq_false c1
          rw [← d2]
          cases ds with
          | nil => exact absurd rfl this
          | cons _ _ => simp
        refine iteF ⟨_, rfl, rfl, _, rfl, ?_⟩
        cases c2 : decide (V.int r = V.int 1) with
        | true =>
          refine iteT ⟨_, rfl, b, _, rfl, .inl (SqL.of hb2), fun l hl => ?_⟩
          exact k l xs _ (List.Sublist.refl _) (B2.none (S2.ne hl) hl) upd_same (S2.but (Same.new hl)) (B2.sm (Same.new hl))
        | false =>
          refine iteF ⟨_, rfl, rfl, _, rfl, ?_⟩
          cases c3 : decide (V.int r = V.int 2) with
          | true =>
            refine iteT ⟨_, rfl, _, rfl, a, b, xs, rfl, S2, ab, SqL.of hb2, hb2, xpos, by omega, fun x H3 hx S3 B3 => ⟨by show 1 ≤ sizeLine; decide, fun l hl => ?_⟩⟩
            have B03 := B2.trans B3
            exact k l [x] _ (List.singleton_sublist.mpr hx) (B03.none (S3.ne hl) hl) upd_same (S3.but (Same.new hl)) (B03.sm (Same.new hl))
          | false =>
            refine iteF ⟨_, rfl, b, rfl, ⟨_, SqL.of hb2⟩, fun D hD => lc_list (K := K) (a := b) (xs := xs) (fun j H' => But a H2 H' ∧ Src H' a ∧ ∃ ys, H' D = some (.lst ys) ∧ ys.Sublist (xs.take j))
              ⟨But.new hD, S2.but (Same.new hD), [], upd_same, List.nil_sublist _⟩ (fun j H' _ ⟨B, _⟩ => SqL.of (B b _ ab.symm hb2)) ?_ ?_⟩
            · rintro j y H3 hj ⟨B3, S3, ys, y1, y2⟩
              have lj : j < xs.length := (List.getElem?_eq_some_iff.mp hj).1
              have tk : xs.take (j + 1) = xs.take j ++ [y] := take_one hj
              have nD : D ≠ a := S2.ne hD
              refine ⟨rfl, _, rfl, a, 2, rfl, S3, by decide, by decide, fun r2 H4 _ _ S4 B4 => ⟨rfl, _, rfl, ?_⟩⟩
              have B34 := B3.trans B4
              have y4 := B4 D _ nD y1
              cases c4 : decide (V.int r2 = V.int 0) with
              | false => exact iteF ⟨B34, S4, ys, y4, by rw [tk]; exact y2.trans (List.sublist_append_left _ _)⟩
              | true =>
                have yl := y2.length_le
                rw [List.length_take] at yl
                refine iteT ⟨_, rfl, ys, y4, by rw [sizeLine_eq]; omega, fun c o n e => ?_, ?_, ys ++ [y], upd_same, by rw [tk]; exact y2.append (List.Sublist.refl _)⟩
                · rw [upd_ne (ne_of_none e hD)]; exact B34 c o n e
                · obtain ⟨x1, x2, x3, S4⟩ := S4
                  exact ⟨x1, x2, x3, by rw [upd_ne nD.symm]; exact S4⟩
            · rintro H3 ⟨B3, S3, ys, y1, y2⟩
              rw [List.take_length] at y2
              exact k D ys _ y2 (B2.none (S2.ne hD) hD) y1 S3 (B2.trans B3)
end
end CP
/-! places in an order, is_order -/
namespace CP
open PySem PySem.Spec PyProof.Rows L2
abbrev sOrder : Stmt := top 42
/-- the place of a name in an order -/
def posN : List Str → Str → Nat
  | [], _ => 0
  | o :: os, z => if o = z then 0 else posN os z + 1
theorem pos_at : ∀ {os : List Str} {i : Nat} {z : Str}, os.Nodup → os[i]? = some z → posN os z = i
  | [], i, z, _, h => by simp at h
  | o :: os, 0, z, _, h => by
    obtain rfl : o = z := Option.some.inj h
    simp [posN]
  | o :: os, i + 1, z, nd, h => by
    have h' : os[i]? = some z := h
    have ne : o ≠ z := fun e => (List.nodup_cons.mp nd).1 (e ▸ List.mem_of_getElem? h')
    show (if o = z then 0 else posN os z + 1) = i + 1
    rw [if_neg ne, pos_at (List.nodup_cons.mp nd).2 h']
theorem pos_get : ∀ {os : List Str} {z : Str}, z ∈ os → os[posN os z]? = some z
  | o :: os, z, h => by
    by_cases c : o = z
    · subst c; simp [posN]
    · have e : posN (o :: os) z = posN os z + 1 := by simp [posN, c]
      rw [e]
      exact pos_get (os := os) ((List.mem_cons.mp h).resolve_left fun q => c q.symm)
theorem pos_lt {os : List Str} {z : Str} (h : z ∈ os) : posN os z < os.length := (List.getElem?_eq_some_iff.mp (pos_get h)).1
theorem pos_inj {os : List Str} {y z : Str} (hy : y ∈ os) (hz : z ∈ os) (h : posN os y = posN os z) : y = z := by
  have a := pos_get hy
  rw [h, pos_get hz] at a
  exact (Option.some.inj a).symm
def altN (a b c d : Nat) : Bool := decide ((min a b < c ∧ c < max a b) ↔ ¬ (min a b < d ∧ d < max a b))
def altB (os : List Str) (e f : E2) : Bool := altN (posN os e.1) (posN os e.2) (posN os f.1) (posN os f.2)
theorem ap_out {e f : E2} (h : apB e f = true) : e.1 ≠ f.1 ∧ e.1 ≠ f.2 ∧ e.2 ≠ f.1 ∧ e.2 ≠ f.2 := of_decide_eq_true h
def InO (os : List Str) (e : E2) : Prop := e.1 ∈ os ∧ e.2 ∈ os
def convV (es : List E2) (os : List Str) : List (E2 × E2) := (pairsOf es).filter fun p => altB os p.1 p.2
theorem perm_of_sub {α : Type} [DecidableEq α] : ∀ {l m : List α}, l.Nodup → (∀ x ∈ l, x ∈ m) → m.length ≤ l.length → l.Perm m
  | [], m, _, _, h => by
    cases m with
    | nil => exact .nil
    | cons _ _ => simp at h
  | x :: l, m, nd, sub, len => by
    obtain ⟨n1, n2⟩ := List.nodup_cons.mp nd
    have hx := sub x List.mem_cons_self
    have p := List.perm_cons_erase hx
    have l1 : (m.erase x).length ≤ l.length := by
      have := p.length_eq
      simp only [List.length_cons] at this len
      omega
    have s1 : ∀ y ∈ l, y ∈ m.erase x := fun y hy => by
      have ne : y ≠ x := fun e => n1 (e ▸ hy)
      exact (List.mem_erase_of_ne ne).mpr (sub y (List.mem_cons_of_mem _ hy))
    exact ((perm_of_sub n2 s1 l1).cons x).trans p.symm
def txt : PyData → Str
  | .str z => z
  | _ => ""
def ordL (ns : List Str) (ds : List PyData) : Bool := decide (ds.length = ns.length) && (ds.all (amB ns) && decide ((ds.map txt).Nodup))
def orB (ns : List Str) : PyData → Bool
  | .list ds => ordL ns ds
  | .tuple ds => ordL ns ds
  | _ => false
def osOf : PyData → List Str
  | .list ds => ds.map txt
  | .tuple ds => ds.map txt
  | _ => []
theorem am_all {ns : List Str} {H : Hp} : ∀ {xs : List V} {ds : List PyData}, OdAll H xs ds → ds.all (amB ns) = true → xs = (ds.map txt).map V.str ∧ ∀ z ∈ ds.map txt, z ∈ ns
  | _, _, .nil, _ => ⟨rfl, fun _ h => nomatch h⟩
  | _, _, .cons (d := d) (ds := ds) o t, h => by
    simp only [List.all_cons, Bool.and_eq_true] at h
    obtain ⟨z, rfl, rfl, m⟩ := am_str o h.1
    obtain ⟨e, f⟩ := am_all t h.2
    refine ⟨by rw [e]; rfl, fun y hy => ?_⟩
    rcases List.mem_cons.mp hy with rfl | hy
    · exact m
    · exact f y hy
theorem od_casesO {H : Hp} {x : V} {d : PyData} (o : Od H x d) : (rowB d = false ∧ ∀ ns, orB ns d = false) ∨ ∃ a xs ds, x = .ref a ∧ RowAt H a xs ∧ OdAll H xs ds ∧ rowB d = true ∧ osOf d = ds.map txt ∧ ∀ ns, orB ns d = ordL ns ds := by
  cases o with
  | lst h al => exact .inr ⟨_, _, _, rfl, .inl h, al, rfl, rfl, fun _ => rfl⟩
  | tup h al => exact .inr ⟨_, _, _, rfl, .inr h, al, rfl, rfl, fun _ => rfl⟩
  | _ => exact .inl ⟨rfl, fun _ => rfl⟩
theorem pe_fld2 {X : Cx} {e : Expr} {ta : TE} {f : Str} {pos : Pos} (K : PySem.W.Frag) (h : X.K = K) (he : PE X e ta) (hb : attributeBase e f X.env (eval e X.env) = eval e X.env) : PE X (.Attribute e f pos) (tFld K ta f) := h ▸ pe_fld he hb
def spOrder (C : Addr) : Sp := fun vs H Q _ => ∃ (g : Addr) (ns : List Str) (es : List Ed) (x : V) (d : PyData), vs = [.ref g, x] ∧ GrAt C H g ns es ∧ ns.length ≤ 8 ∧ Od H x d ∧ ∀ H', Same H H' → Q (.bl (orB ns d)) H'
section
variable {P : Program} {w : World} {K : PySem.W.Frag} {mg : Str → Option Value} {base : Heap}
theorem scOrder : FnScope ["graph", "value", "vertex"] ["graph", "value"] (defScope sOrder) := ⟨rfl, rfl, rfl, by decide +kernel, rfl, by decide +kernel, by decide +kernel⟩
theorem ok_order {f fR fA C : Addr} {fd fdR fdA : FuncData} (F : Fun K "is_order" "is_order" sOrder f fd) (T : GTxt K mg C) (ml : mg "len" = none) (ma : mg "all" = none) (mset : mg "set" = none)
    (mR : mg "is_row" = some (.ref fR)) (FR : FnOk P w K mg base CX0 1 fR fdR ["value"] spRowG) (kR : PySem.W.keepIn K (.ref fR) = true) (bR : Binds K fdR ["value"] [])
    (mA : mg "is_among" = some (.ref fA)) (FA : FnOk P w K mg base CX0 1 fA fdA ["vertices", "value"] (spAmongG K)) (kA : PySem.W.keepIn K (.ref fA) = true) (bA : Binds K fdA ["vertices", "value"] []) : FnOk P w K mg base CX0 2 f fd ["graph", "value"] (spOrder C) := by
  refine F.ok scOrder (fun vs H Q E h => ?_) (fun cdv A outer s H vs Q E hr h => ?_)
  · obtain ⟨g, ns, es, x, d, rfl, _⟩ := h; rfl
  · obtain ⟨g, ns, es, x, d, rfl, G, n8, o, k⟩ := h
    refine ⟨_, pss_cons (ps_if (PW.pt (pw_or (pt_not (pt_val (pe_call FR hr rfl mR kR bR .nil pass0 (pa_cons (pv 1) pa_nil))))
        (pw_or1 (pt_cmpR op_ne (pe_callB call_len_seq (by rfl) ml PySem.boot_len (pa_cons (pv 1) pa_nil)) (pe_callB call_len_seq (by rfl) ml PySem.boot_len (pa_cons (pe_fld (pv 0) rfl) pa_nil)) (nomark _)))))
        (pss_one (ps_ret pe_bl)) pss_nil)
      (pss_one (ps_ret (pe_and (pe_callB (cr_all rfl) (by rfl) ma (by decide +kernel) (pa_cons (pe_lc (own := [("vertex", 2)]) (g := gName 2) (tt := tYes) rfl scOrder.nd (pi_seq (pv 1)) (blkOk_by (own := [("vertex", 2)]) (N := ["graph", "value", "vertex"]) (sc := defScope sOrder) (by decide +kernel))
        (fun _ _ _ _ _ => pg_name (i := 2) scOrder.nd rfl (Or.inl rfl)) (fun _ _ _ _ _ => pts_nil) (fun _ _ _ _ _ => pe_call FA hr rfl mA kA bA .nil pass0 (pa_cons (pe_fld2 K rfl (pv 0) rfl) (pa_cons (pv 2) pa_nil)))) pa_nil))
        (pe_one (pe_cmpR op_eq (pe_lenSetX rfl (by rfl) ml (by rfl) mset (pv 1)) (pe_callB call_len_seq (by rfl) ml PySem.boot_len (pa_cons (pv 1) pa_nil)) (nomark _)))))), ?_⟩
    refine ⟨_, rfl, x, d, rfl, o, fun H1 s1 => ⟨_, rfl, ?_⟩⟩
    rcases od_casesO o with ⟨r, eo⟩ | ⟨a, xs, ds, rfl, hrow, al, r, _, eo⟩
    · rw [r]
      refine iteT (iteT ?_)
      rw [eo] at k; exact k _ s1
    rw [r]
    have hrow1 := hrow.same s1
    obtain ⟨⟨dx, t1, t2, g1, g2, g3⟩, ge⟩ := G.same s1
    have hl := odLen al
    refine iteF ⟨_, rfl, a, _, rfl, hrow1.sq, _, rfl, g, C, dx, _, _, rfl, g1, T.cl, T.nV, gf_v _ _, t1, _, rfl, .inr (SqT.of g2), rfl, _, rfl, ?_⟩
    rw [eo] at k
    by_cases c : ds.length = ns.length
    · have c' : decide (V.int (xs.length : Int) = V.int ((ns.map V.str).length : Int)) = true := decide_eq_true (by rw [List.length_map, hl, c])
      rw [c']
      refine iteF ?_
      refine ⟨_, rfl, a, xs, rfl, hrow1, fun J GG wk hG D hD => lc_it wk (fun i H' => H' D = some (.lst (((ds.take i).map (amB ns)).map V.bl)) ∧ Same H1 H') ⟨upd_same, Same.new hD⟩ (fun i H' _ ⟨_, s2⟩ => hG _ (hrow1.eq s2)) ?_ ?_⟩
      · rintro i y H2 H3 hi ⟨e1, s2⟩ ⟨rfl, hy⟩
        obtain ⟨dy, hdy, oy⟩ := odAt al hy
        have tk : ds.take (i + 1) = ds.take i ++ [dy] := take_one hdy
        refine ⟨rfl, _, rfl, g, C, dx, _, _, rfl, s2 _ _ g1, T.cl, T.nV, gf_v _ _, _, rfl, t1, ns, y, dy, rfl, .inr (SqT.of (s2 _ _ g2)), (oy.same s1).same s2, _, e1, ?_, ?_, Same.grow hD s2⟩
        · rw [List.length_map, List.length_map, List.length_take, sizeLine_eq]; omega
        · rw [upd_same, tk, List.map_append, List.map_append]; rfl
      · rintro H2 ⟨e1, s2⟩
        rw [List.take_of_length_le (by omega)] at e1
        refine ⟨D, _, rfl, SqL.of e1, _, rfl, ?_⟩
        have ea : (ds.map (amB ns)).all id = ds.all (amB ns) := by rw [List.all_map]; rfl
        rw [ea]
        cases ca : ds.all (amB ns) with
        | false =>
          refine iteF ?_
          have e : ordL ns ds = false := by unfold ordL; rw [ca, Bool.false_and, Bool.and_false]
          rw [e] at k; exact k _ (s1.trans s2)
        | true =>
          obtain ⟨ex, _⟩ := am_all al ca
          refine iteT ⟨_, rfl, a, ds.map txt, rfl, (show SqL K H2 a ((ds.map txt).map V.str) ∨ SqT K H2 a ((ds.map txt).map V.str) by rw [← ex]; exact (hrow1.same s2).sq), by rw [List.length_map]; omega, fun n _ q => ⟨_, rfl, a, _, rfl, (hrow1.same s2).sq, rfl, ?_⟩⟩
          have e : decide (V.int (n : Int) = V.int (xs.length : Int)) = ordL ns ds := by
            unfold ordL
            rw [ca, decide_eq_true c, Bool.true_and, Bool.true_and]
            refine decide_eq_decide.mpr ?_
            rw [← q, List.length_map, ← hl]
            exact ⟨fun z => by injection z with z; omega, fun z => by rw [z]⟩
          rw [e]; exact k _ (s1.trans s2)
    · have c' : decide (V.int (xs.length : Int) = V.int ((ns.map V.str).length : Int)) = false := decide_eq_false (fun z => by rw [List.length_map, hl] at z; injection z with z; exact c (by omega))
      rw [c']
      refine iteT ?_
      have e : ordL ns ds = false := by unfold ordL; rw [decide_eq_false c]; rfl
      rw [e] at k; exact k _ s1
end
end CP
/-! alternates -/
namespace CP
open PySem PySem.Spec PyProof.Rows L2
abbrev sAlt : Stmt := top 45
theorem dc_it {J : It} {n : Nat} {G : Hp → Prop} {Y : Nat → Hp → V → Hp → Prop} (w : Walk J n G Y) {g : TG} {tt : TT} {tk tv : TE} {vs : List Nat} {σ : L2.St} {H1 : Hp} {D : Addr} {Qd : Hp → Prop} (Pv : Nat → Hp → Prop) (h0 : Pv 0 (L2.upd H1 D (.dK []))) (hG : ∀ i H, i ≤ n → Pv i H → G H)
    (hs : ∀ i x H H', i < n → Pv i H → Y i H x H' → g x (wipe σ vs) H' fun σ2 H2 => wipe σ2 vs = wipe σ vs ∧ tt σ2 H2 fun b H3 =>
      if b = true then tk σ2 H3 fun y H4 => tv σ2 H4 fun z H5 => ∃ kvs k, y = kV k ∧ H5 D = some (.dK kvs) ∧ kvs.length < sizeLine ∧ Pv (i + 1) (L2.upd H5 D (.dK (putK kvs k z))) else Pv (i + 1) H3) (hd : ∀ H, Pv n H → Qd H) :
    ∃ W : Nat → Nat → Hp → Prop, (∃ m, W 0 m (L2.upd H1 D (.dK []))) ∧ ∀ i m H, W i m H →
      (J.stop i H ∧ Qd H) ∨ (J.go i H ∧ ∃ Nx : Hp → Prop, (∀ H', Nx H' → ∃ m', m' < m ∧ W (i + 1) m' H') ∧ ∀ x H', J.yld i H x H' → g x (wipe σ vs) H' fun σ2 H2 => wipe σ2 vs = wipe σ vs ∧ tt σ2 H2 fun b H3 =>
        if b = true then tk σ2 H3 fun y H4 => tv σ2 H4 fun z H5 => ∃ kvs k, y = kV k ∧ H5 D = some (.dK kvs) ∧ kvs.length < sizeLine ∧ Nx (L2.upd H5 D (.dK (putK kvs k z))) else Nx H3) := by
  refine ⟨fun i m H => m = n - i ∧ i ≤ n ∧ Pv i H, ⟨n, by simp, Nat.zero_le _, h0⟩, ?_⟩
  rintro i m H ⟨rfl, hi, p⟩
  have q := hG i H hi p
  by_cases hlt : i < n
  · refine .inr ⟨w.goes i H hlt q, Pv (i + 1), fun H' p' => ⟨n - (i + 1), by omega, rfl, hlt, p'⟩, fun x H' y => hs i x H H' hlt p (w.yields i H x H' hlt q y)⟩
  · have e : i = n := by omega
    subst e
    exact .inl ⟨w.stops H q, hd H p⟩
theorem sorted2 {a b : Int} {l : List Int} (p : l.Perm [a, b]) (s : l.Pairwise (· ≤ ·)) : l = [min a b, max a b] := by
  have hl : l.length = 2 := p.length_eq
  match l, hl with
  | [x, y], _ =>
    have xy : x ≤ y := by simpa using s
    have h : (x = a ∧ y = b) ∨ (x = b ∧ y = a) := by
      by_cases c : x = a
      · subst c
        have q := List.Perm.cons_inv p
        exact .inl ⟨rfl, by simpa using q.mem_iff.mp (List.mem_singleton.mpr rfl)⟩
      · have m : x ∈ [a, b] := p.mem_iff.mp List.mem_cons_self
        have xb : x = b := by simpa [c] using m
        subst xb
        have q := List.Perm.cons_inv (p.trans (List.Perm.swap x a []))
        exact .inr ⟨rfl, by simpa using q.mem_iff.mp (List.mem_singleton.mpr rfl)⟩
    rcases h with ⟨rfl, rfl⟩ | ⟨rfl, rfl⟩
    · rw [Int.min_eq_left xy, Int.max_eq_right xy]
    · rw [Int.min_eq_right xy, Int.max_eq_left xy]
theorem dgetS {H : Hp} {d : Addr} {kvs : List (Key × V)} {u : Str} {v : V} (hd : H d = some (.dK kvs)) (hv : valV kvs (Sum.inr u) = some v) : DGet H d (.str u) (some v) := by
  rw [← hv]; exact DGet.k (k := Sum.inr u) hd
def insB (lo hi : Int) (f : Str → Nat) (z : Str) : Bool := decide (lo < (f z : Int)) && decide ((f z : Int) < hi)
theorem ins_one (a b : Nat) (f : Str → Nat) (x y : Str) : decide (V.int ((([x, y].filter (insB (min (a : Int) b) (max (a : Int) b) f)).length : Nat) : Int) = V.int 1) = altN a b (f x) (f y) := by
  have key : ∀ z, insB (min (a : Int) b) (max (a : Int) b) f z = decide (min a b < f z ∧ f z < max a b) := fun z => by
    unfold insB
    rw [Bool.decide_and]
    congr 1 <;> exact decide_eq_decide.mpr (by omega)
  have e : altN a b (f x) (f y) = (insB (min (a : Int) b) (max (a : Int) b) f x != insB (min (a : Int) b) (max (a : Int) b) f y) := by
    rw [key, key]; unfold altN
    by_cases c1 : min a b < f x ∧ f x < max a b <;> by_cases c2 : min a b < f y ∧ f y < max a b <;> simp [c1, c2]
  rw [e]
  cases c1 : insB (min (a : Int) b) (max (a : Int) b) f x <;> cases c2 : insB (min (a : Int) b) (max (a : Int) b) f y <;> simp [List.filter_cons, c1, c2]
/-- alternates(places, pair) -/
def spAlt : Sp := fun vs H Q _ => ∃ (d : Addr) (q : Pr) (kvs : List (Key × V)) (f : Str → Nat), vs = [.ref d, .ref q.1] ∧ H d = some (.dK kvs) ∧ PrAt H q ∧
  (∀ z ∈ [(prV q).1.1, (prV q).1.2, (prV q).2.1, (prV q).2.2], valV kvs (Sum.inr z) = some (.int (f z))) ∧
  ∀ H', Same H H' → Q (.bl (altN (f (prV q).1.1) (f (prV q).1.2) (f (prV q).2.1) (f (prV q).2.2))) H'
section
variable {P : Program} {w : World} {K : PySem.W.Frag} {mg : Str → Option Value} {base : Heap}
theorem scAlt : FnScope ["places", "pair", "one", "other", "low", "high", "inside", "end"] ["places", "pair"] (defScope sAlt) := ⟨rfl, rfl, rfl, by decide +kernel, rfl, by decide +kernel, by decide +kernel⟩
theorem ok_alt {f : Addr} {fd : FuncData} (F : Fun K "alternates" "alternates" sAlt f fd) (ml : mg "len" = none) (ms : mg "sorted" = none) : FnOk P w K mg base CX0 1 f fd ["places", "pair"] spAlt := by
  refine F.ok scAlt (fun vs H Q E h => ?_) (fun cdv A outer s H vs Q E hr h => ?_)
  · obtain ⟨d, q, kvs, pf, rfl, _⟩ := h; rfl
  · obtain ⟨d, ⟨q, ⟨p1, u, v⟩, ⟨p2, x, y⟩⟩, kvs, pf, rfl, hd, hq, hv, k⟩ := h
    have hu := hu_of hr
    obtain ⟨h0, h1, h2⟩ := hq
    have h0 : H q = some (.tup [.ref p1, .ref p2]) := h0
    have h1 : H p1 = some (.tup [.str u, .str v]) := h1
    have h2 : H p2 = some (.tup [.str x, .str y]) := h2
    have vu : valV kvs (Sum.inr u) = some (.int (pf u)) := hv u (by simp [prV])
    have vv : valV kvs (Sum.inr v) = some (.int (pf v)) := hv v (by simp [prV])
    have vxy : ∀ z ∈ [x, y], valV kvs (Sum.inr z) = some (.int (pf z)) := fun z hz => hv z (by simp at hz; rcases hz with rfl | rfl <;> simp [prV])
    have k : ∀ H', Same H H' → Q (.bl (altN (pf u) (pf v) (pf x) (pf y))) H' := k
    refine ⟨_, pss_cons (ps_asg (pv 1) (pg_tup rfl (pgs_cons (pg_name (i := 2) scAlt.nd rfl (Or.inl rfl)) (pgs_cons (pg_name (i := 3) scAlt.nd rfl (Or.inl rfl)) pgs_nil))))
      (pss_cons (ps_asg (pe_callB cr_sorted (by rfl) ms (by decide +kernel) (pa_cons (pe_lst (pa_cons (pe_dget hu (pv 0) (pe_ix ix_tup (pv 2) pe_int (fun _ _ => rfl)) (fun _ _ => rfl)) (pa_cons (pe_dget hu (pv 0) (pe_ix ix_tup (pv 2) pe_int (fun _ _ => rfl)) (fun _ _ => rfl)) pa_nil))) pa_nil))
        (pg_lst rfl (pgs_cons (pg_name (i := 4) scAlt.nd rfl (Or.inr rfl)) (pgs_cons (pg_name (i := 5) scAlt.nd rfl (Or.inr rfl)) pgs_nil))))
      (pss_cons (ps_setLc (i := 6) (own := [("end", 7)]) (g := gName 7) rfl scAlt.nd rfl rfl (sw_true rfl rfl rfl (by decide +kernel)) (pi_tup (pv 3))
        (blkOk_by (own := [("end", 7)]) (N := ["places", "pair", "one", "other", "low", "high", "inside", "end"]) (sc := defScope sAlt) (by decide +kernel))
        (fun _ _ _ _ _ => pg_name (i := 7) scAlt.nd rfl (Or.inl rfl)) (fun _ _ _ _ _ => pts_one (pt_chain op_lt op_lt (pv 4) (pe_dget hu (pv 0) (pv 7) (fun _ _ => rfl)) (pv 5))) (fun _ _ _ _ _ => pv 7))
      (pss_one (ps_ret (pe_cmpR op_eq (pe_callB call_len_seq (by rfl) ml PySem.boot_len (pa_cons (pv 6) pa_nil)) pe_int (nomark _)))))), ?_⟩
    refine ⟨_, rfl, q, _, rfl, SqT.of h0, rfl, _, _, rfl, _, _, rfl, rfl, ?_⟩
    refine ⟨_, rfl, _, rfl, p1, _, _, _, rfl, rfl, SqT.of h1, (atI_nat (j := 0) rfl), d, _, rfl, dgetS hd vu, _, rfl, _, rfl, p1, _, _, _, rfl, rfl, SqT.of h1, (atI_nat (j := 1) rfl), d, _, rfl, dgetS hd vv, by show 2 ≤ sizeLine; decide, fun l hl => ?_⟩
    have s1 : Same H (L2.upd H l (.lst [.int (pf u), .int (pf v)])) := Same.new hl
    refine ⟨l, [(pf u : Int), (pf v : Int)], rfl, SqL.of upd_same, by show 2 < 64; decide, fun ns' m pm pw hm => ?_⟩
    obtain rfl := sorted2 pm pw
    have s2 : Same H (L2.upd (L2.upd H l (.lst [.int (pf u), .int (pf v)])) m (.lst ([min (pf u : Int) (pf v), max (pf u : Int) (pf v)].map V.int))) := s1.trans (Same.new hm)
    refine ⟨m, _, rfl, SqL.of upd_same, rfl, _, _, rfl, _, _, rfl, rfl, ?_⟩
    generalize L2.upd (L2.upd H l (.lst [.int (pf u), .int (pf v)])) m (.lst ([min (pf u : Int) (pf v), max (pf u : Int) (pf v)].map V.int)) = H2 at s2 ⊢
    refine ⟨_, rfl, p2, rfl, ⟨_, SqT.of (s2 _ _ h2)⟩, fun D hD => lc_it (walk_tup (K := K) (a := p2) (xs := [V.str x, V.str y])) (fun i H' => Same H2 H' ∧ H' D = some (.lst ((([x, y].take i).filter (insB (min (pf u : Int) (pf v)) (max (pf u : Int) (pf v)) pf)).map V.str)))
      ⟨Same.new hD, upd_same⟩ (fun i H' _ ⟨s, _⟩ => SqT.of (s _ _ (s2 _ _ h2))) ?_ ?_⟩
    · rintro i z H3 H4 hi ⟨s3, e3⟩ ⟨rfl, hz⟩
      have hz' : ([x, y].map V.str)[i]? = some z := hz
      have li : i < [x, y].length := hi
      rw [List.getElem?_map, List.getElem?_eq_getElem li] at hz'
      obtain rfl : V.str [x, y][i] = z := Option.some.inj hz'
      have tk : [x, y].take (i + 1) = [x, y].take i ++ [[x, y][i]] := take_one (List.getElem?_eq_getElem li)
      have vz := vxy [x, y][i] (List.getElem_mem li)
      generalize [x, y][i] = z at tk vz
      have hd4 := s3 _ _ (s2 _ _ hd)
      have hno : insB (min (pf u : Int) (pf v)) (max (pf u : Int) (pf v)) pf z = false → H4 D = some (.lst ((([x, y].take (i + 1)).filter (insB (min (pf u : Int) (pf v)) (max (pf u : Int) (pf v)) pf)).map V.str)) := fun c => by
        rw [tk, List.filter_append]
        have q : [z].filter (insB (min (pf u : Int) (pf v)) (max (pf u : Int) (pf v)) pf) = [] := by simp [c]
        rw [q, List.append_nil]; exact e3
      refine ⟨rfl, _, rfl, _, rfl, _, rfl, d, _, rfl, dgetS hd4 vz, _, _, rfl, rfl, _, rfl, ?_⟩
      cases c1 : decide (min (pf u : Int) (pf v) < (pf z : Int)) with
      | false => exact iteF ⟨_, rfl, iteF ⟨s3, hno (by unfold insB; rw [c1]; rfl)⟩⟩
      | true =>
        refine iteT ⟨_, rfl, _, _, rfl, rfl, _, rfl, ?_⟩
        cases c2 : decide ((pf z : Int) < max (pf u : Int) (pf v)) with
        | false => exact iteF ⟨s3, hno (by unfold insB; rw [c2, Bool.and_false])⟩
        | true =>
          refine iteT ⟨_, rfl, _, e3, ?_, Same.grow hD s3, ?_⟩
          · rw [List.length_map, sizeLine_eq]
            have := List.length_filter_le (insB (min (pf u : Int) (pf v)) (max (pf u : Int) (pf v)) pf) ([x, y].take i)
            have l2 : [x, y].length = 2 := rfl
            rw [List.length_take] at this; omega
          · rw [upd_same, tk, List.filter_append]
            have q : [z].filter (insB (min (pf u : Int) (pf v)) (max (pf u : Int) (pf v)) pf) = [z] := by simp [insB, c1, c2]
            rw [q, List.map_append]; rfl
    · rintro H3 ⟨s3, e3⟩
      refine ⟨_, rfl, D, _, rfl, .inl (SqL.of e3), rfl, ?_⟩
      have e := ins_one (pf u) (pf v) pf x y
      rw [List.length_map]
      show Q (.bl (decide (V.int ((([x, y].filter (insB (min (pf u : Int) (pf v)) (max (pf u : Int) (pf v)) pf)).length : Nat) : Int) = V.int 1))) _
      rw [e]; exact k _ (s2.trans s3)
end
end CP
/-! convex -/
namespace CP
open PySem PySem.Spec PyProof.Rows L2
abbrev sConvex : Stmt := top 44
def veB : List Value := [.type "ValueError", .type "Exception", .type "BaseException", .type "object"]
/-- raise C(), an own class without own __init__ -/
theorem pmk_own0 {X : Cx} {C : Addr} {bmB : List Value} {B newId initId : String} {x : Str} {p pos : Pos} (F : ExcBaseFacts B newId initId bmB) (q : PySem.W.excIn X.K C bmB newId = true) (gC : X.mg x = some (.ref C)) (kC : PySem.W.keepIn X.K (.ref C) = true) (r : Raises X (.ref C)) (hg : Gl X x)
    (hdb : (x == ("__debug__" : Str)) = false := by decide) : PMk X (.Call (.Name x p) [] [] pos) (fun _ H Q => Q (.ref C) none H) := by
  intro pins s σ H Q I h
  refine wpAny_Call_Name_kw (ld_glob I hg gC (PySem.W.callWith_K0 I.kIn kC ?_) hdb)
  obtain ⟨bm, N, nm, qn, bs, hdct, sn, sub, ab, col, dd, k0, k1, k2, k3, k5, mN, hC, hN, hni, T⟩ := exc_obj I.kIn q
  refine wpAny_call_exc_subT F T hC hN hni (fun h' e hm => ?_) (Nat.zero_le _)
  exact mk_of I hm r h (I.hok.gone hm.new)
/-- what is wanted of an own exception class without own __init__ -/
structure XOwn (K : PySem.W.Frag) (C : Addr) : Prop where
  ex : PySem.W.excIn K C veB "ValueError.__new__" = true
  kp : PySem.W.keepIn K (.ref C) = true
  sb : PySem.W.subIn K (.ref C) (.type "BaseException") = some true
  ty : PySem.W.typeIn K (.ref C) = some (.type "type")
theorem pg_tup2 {X : Cx} {es : List Expr} {k : Nat} {t : TGs} {n : Nat} {pos : Pos} (K : PySem.W.Frag) (h0 : X.K = K) (hc : X.calm = true) (h : PGs X es t)
    (hn : (assignEach es X.env).length = n := by rfl) (hst : (assignEach es X.env).findIdx? (·.1) = none := by rfl) : PG X (.Tuple es k pos) (gTup K n t) := h0 ▸ pg_tup hc h hn hst
theorem txt_map (os : List Str) : (os.map PyData.str).map txt = os := by
  rw [List.map_map]; exact List.map_id' os
theorem ord_true {ns os : List Str} (nd : os.Nodup) (sub : ∀ z ∈ os, z ∈ ns) (len : os.length = ns.length) : ordL ns (os.map PyData.str) = true := by
  unfold ordL
  rw [txt_map, decide_eq_true nd, List.length_map, decide_eq_true len, Bool.and_true, Bool.true_and]
  refine List.all_eq_true.mpr fun d hd => ?_
  obtain ⟨z, hz, rfl⟩ := List.mem_map.mp hd
  exact decide_eq_true (sub z hz)
theorem ord_out {ns : List Str} {ds : List PyData} (h : ordL ns ds = true) : ds.length = ns.length ∧ ds.all (amB ns) = true ∧ (ds.map txt).Nodup := by
  unfold ordL at h
  simp only [Bool.and_eq_true, decide_eq_true_eq] at h
  exact ⟨h.1, h.2.1, h.2.2⟩
/-- convex(graph, order) -/
def spConvex (C Cn : Addr) : Sp := fun vs H Q E => ∃ (g : Addr) (ns : List Str) (es : List Ed) (x : V) (d : PyData), vs = [.ref g, x] ∧ GrAt C H g ns es ∧ ns.length ≤ 8 ∧ es.length < 1000 ∧ (∀ e ∈ es, InO ns e.2) ∧ Od H x d ∧
  (orB ns d = false → ∀ H', Same H H' → E (.ref Cn) none H') ∧
  (orB ns d = true → ∀ l H', H l = none → PrsAt H' l (convV (es.map (·.2)) (osOf d)) → Same H H' → Q (.ref l) H')
section
variable {P : Program} {w : World} {K : PySem.W.Frag} {mg : Str → Option Value} {base : Heap}
theorem scConvex : FnScope ["graph", "order", "places", "at", "vertex", "pair"] ["graph", "order"] (defScope sConvex) := ⟨rfl, rfl, rfl, by decide +kernel, rfl, by decide +kernel, by decide +kernel⟩
theorem ok_convex {f fO fP fA C Cn : Addr} {fd fdO fdP fdA : FuncData} (F : Fun K "convex" "convex" sConvex f fd) (me : mg "enumerate" = none) (mN : mg "NoOrder" = some (.ref Cn)) (TN : XOwn K Cn)
    (mO : mg "is_order" = some (.ref fO)) (FO : FnOk P w K mg base CX0 2 fO fdO ["graph", "value"] (spOrder C)) (kO : PySem.W.keepIn K (.ref fO) = true) (bO : Binds K fdO ["graph", "value"] [])
    (mP : mg "pairs" = some (.ref fP)) (FP : FnOk P w K mg base CX0 2 fP fdP ["graph"] (spPairs C)) (kP : PySem.W.keepIn K (.ref fP) = true) (bP : Binds K fdP ["graph"] [])
    (mA : mg "alternates" = some (.ref fA)) (FA : FnOk P w K mg base CX0 1 fA fdA ["places", "pair"] spAlt) (kA : PySem.W.keepIn K (.ref fA) = true) (bA : Binds K fdA ["places", "pair"] []) : FnOk P w K mg base (L2.CX P w) 3 f fd ["graph", "order"] (spConvex C Cn) := by
  refine F.okX scConvex (fun vs H Q E h => ?_) (fun cdv A outer s H vs Q E hr h => ?_)
  · obtain ⟨g, ns, es, x, d, rfl, _⟩ := h; rfl
  · obtain ⟨g, ns, es, x, d, rfl, G, n8, few, io, o, kE, kQ⟩ := h
    have hr1 : Room 1 _ := hr.mono (by decide)
    refine ⟨_, pss_cons (ps_if (pt_not (pt_val (pe_call FO hr rfl mO kO bO .nil pass0 (pa_cons (pv 0) (pa_cons (pv 1) pa_nil))))) (pss_one (ps_raise rfl (takes_of rfl rfl rfl rfl) (pmk_own0 PySem.F.excBase_ValueError TN.ex mN TN.kp (raises_own TN.sb TN.ty) rfl))) pss_nil)
      (pss_cons (ps_set (i := 2) scConvex.nd rfl (Or.inr rfl) (pe_dc (own := [("at", 3), ("vertex", 4)]) (g := gTup K 2 (gCons (gName 3) (gCons (gName 4) gNil))) (tt := tYes) rfl scConvex.nd (pi_enumS (by rfl) me (pa_cons (pv 1) pa_nil))
          (blkOk_by (own := [("at", 3), ("vertex", 4)]) (N := ["graph", "order", "places", "at", "vertex", "pair"]) (sc := defScope sConvex) (by decide +kernel))
          (fun _ _ _ _ _ => pg_tup2 K rfl rfl (pgs_cons (pg_name (i := 3) scConvex.nd rfl (Or.inl rfl)) (pgs_cons (pg_name (i := 4) scConvex.nd rfl (Or.inl rfl)) pgs_nil))) (fun _ _ _ _ _ => pts_nil) (fun _ _ _ _ _ => pv 4) (fun _ _ _ _ _ => pv 3)))
      (pss_one (ps_ret (pe_lc (own := [("pair", 5)]) (g := gName 5) rfl scConvex.nd (pi_list (pe_call FP hr rfl mP kP bP .nil pass0 (pa_cons (pv 0) pa_nil)))
          (blkOk_by (own := [("pair", 5)]) (N := ["graph", "order", "places", "at", "vertex", "pair"]) (sc := defScope sConvex) (by decide +kernel))
          (fun _ _ _ _ _ => pg_name (i := 5) scConvex.nd rfl (Or.inl rfl)) (fun _ _ _ _ _ => pts_one (pt_val (pe_call FA hr1 rfl mA kA bA .nil pass0 (pa_cons (pv 2) (pa_cons (pv 5) pa_nil))))) (fun _ _ _ _ _ => pv 5))))), ?_⟩
    refine ⟨_, rfl, _, rfl, g, ns, es, x, d, rfl, G, n8, o, fun H1 s1 => ⟨_, rfl, ?_⟩⟩
    cases c : orB ns d with
    | false => exact iteT (kE c _ s1)
    | true =>
      refine iteF ?_
      rcases od_casesO o with ⟨r, eo⟩ | ⟨a, xs, ds, rfl, hrow, al, r, od, eo⟩
      · rw [eo ns] at c; cases c
      have co := c
      rw [eo ns] at co
      obtain ⟨len, am, nd⟩ := ord_out co
      obtain ⟨ex, sub⟩ := am_all al am
      rw [od] at kQ
      have kQ := kQ c
      generalize ds.map txt = os at ex sub nd kQ od
      have ol : os.length = ns.length := by have := congrArg List.length ex; rw [List.length_map, odLen al] at this; omega
      have pm : os.Perm ns := perm_of_sub nd sub (by omega)
      subst ex
      have hrow1 := hrow.same s1
      refine ⟨_, rfl, a, _, rfl, hrow1, fun J GG wk hG D hD => dc_it wk (fun i H' => Same H1 H' ∧ ∃ kvs, H' D = some (.dK kvs) ∧ kvs.length ≤ i ∧ ∀ (j : Nat) z, j < i → os[j]? = some z → valV kvs (Sum.inr z) = some (.int (j : Nat)))
        ⟨Same.new hD, [], upd_same, Nat.le_refl _, fun j z h => absurd h (Nat.not_lt_zero _)⟩ (fun i H' _ ⟨s2, _⟩ => hG _ (hrow1.eq s2)) ?_ ?_⟩
      · rintro i y H2 H3 hi ⟨s2, kvs, e2, l2, v2⟩ ⟨T, x1, x2, rfl, hT, rfl, e1, e3⟩
        rw [List.length_map] at hi
        obtain rfl : V.int (i : Nat) = x1 := Option.some.inj e1
        dsimp only at e3
        rw [List.getElem?_map, List.getElem?_eq_getElem hi] at e3
        obtain rfl : V.str os[i] = x2 := Option.some.inj e3
        have s3 : Same H2 (L2.upd H2 T (.tup [.int (i : Nat), .str os[i]])) := Same.new hT
        refine ⟨T, _, rfl, SqT.of upd_same, rfl, _, _, rfl, _, _, rfl, rfl, rfl, _, rfl, _, rfl, kvs, Sum.inr os[i], rfl, s3 _ _ e2, ?_, Same.grow hD (s2.trans s3), _, upd_same, ?_, ?_⟩
        · rw [sizeLine_eq]; omega
        · exact Nat.le_trans (length_putK _ _ _) (by omega)
        · intro j z hj hz
          rw [valV_put]
          by_cases cj : j = i
          · subst cj
            rw [List.getElem?_eq_getElem hi] at hz
            rw [Option.some.inj hz, if_pos rfl]
          · rw [if_neg, v2 j z (by omega) hz]
            intro q
            injection q with q
            exact cj (nodup_ne nd hz (by rw [List.getElem?_eq_getElem hi, q]))
      · rintro H2 ⟨s2, kvs, e2, l2, v2⟩
        rw [List.length_map] at v2
        have s02 := s1.trans s2
        refine ⟨_, rfl, g, ns, es, rfl, G.same s02, few, fun l H3 hl R3 s3 => ?_⟩
        obtain ⟨qs, r1, r2, r3⟩ := R3
        have s23 := s02.trans s3
        refine ⟨l, rfl, ⟨_, SqL.of r1⟩, fun D2 hD2 => lc_list (K := K) (a := l) (xs := qs.map fun q => V.ref q.1) (fun j H' => Same H3 H' ∧ H' D2 = some (.lst (((qs.take j).filter fun q => altB os (prV q).1 (prV q).2).map fun q => V.ref q.1)))
          ⟨Same.new hD2, upd_same⟩ (fun j H' _ ⟨s, _⟩ => SqL.of (s _ _ r1)) ?_ ?_⟩
        · rintro j y H4 hj ⟨s4, e4⟩
          have lj : j < qs.length := by have := (List.getElem?_eq_some_iff.mp hj).1; rw [List.length_map] at this; exact this
          rw [List.getElem?_map, List.getElem?_eq_getElem lj] at hj
          obtain rfl : V.ref qs[j].1 = y := Option.some.inj hj
          have mj : qs[j] ∈ qs := List.getElem_mem lj
          have tk : qs.take (j + 1) = qs.take j ++ [qs[j]] := take_one (List.getElem?_eq_getElem lj)
          have mp : prV qs[j] ∈ pairsOf (es.map (·.2)) := by rw [← r3]; exact List.mem_map.mpr ⟨_, mj, rfl⟩
          obtain ⟨m1, m2, _⟩ := pairs_mem mp
          have io' : ∀ e ∈ es.map (·.2), InO ns e := fun e he => by obtain ⟨q, hq, rfl⟩ := List.mem_map.mp he; exact io q hq
          have inn : ∀ z ∈ [(prV qs[j]).1.1, (prV qs[j]).1.2, (prV qs[j]).2.1, (prV qs[j]).2.2], z ∈ os := fun z hz => by
            simp only [List.mem_cons, List.not_mem_nil, or_false] at hz
            refine pm.mem_iff.mpr ?_
            rcases hz with rfl | rfl | rfl | rfl
            · exact (io' _ m1).1
            · exact (io' _ m1).2
            · exact (io' _ m2).1
            · exact (io' _ m2).2
          refine ⟨rfl, _, rfl, _, rfl, D, qs[j], kvs, posN os, rfl, s4 _ _ (s3 _ _ e2), (r2 _ mj).same s4, fun z hz => v2 _ z (pos_lt (inn z hz)) (pos_get (inn z hz)), fun H5 s5 => ⟨_, rfl, ?_⟩⟩
          show if altB os (prV qs[j]).1 (prV qs[j]).2 = true then _ else _
          cases ca : altB os (prV qs[j]).1 (prV qs[j]).2 with
          | false =>
            refine iteF ⟨s4.trans s5, ?_⟩
            rw [tk, List.filter_append]
            have q : [qs[j]].filter (fun q => altB os (prV q).1 (prV q).2) = [] := by simp [ca]
            rw [q, List.append_nil]; exact s5 _ _ e4
          | true =>
            refine iteT ⟨_, rfl, _, s5 _ _ e4, ?_, Same.grow hD2 (s4.trans s5), ?_⟩
            · rw [List.length_map, sizeLine_eq]
              have b1 := List.length_filter_le (fun q : Pr => altB os (prV q).1 (prV q).2) (qs.take j)
              rw [List.length_take] at b1
              have b2 := congrArg List.length r3
              rw [List.length_map] at b2
              have b3 : (pairsOf (es.map (·.2))).length ≤ es.length * es.length := by
                unfold pairsOf; rw [List.length_map]
                exact upTo_len (m := es.length) (fun i => by have := row_len (es.map (·.2)) i; rw [List.length_map] at this; exact this) _
              have b4 : es.length * es.length ≤ 1000 * 1000 := Nat.mul_le_mul (by omega) (by omega)
              omega
            · rw [upd_same, tk, List.filter_append]
              have q : [qs[j]].filter (fun q => altB os (prV q).1 (prV q).2) = [qs[j]] := by simp [ca]
              rw [q, List.map_append]; rfl
        · rintro H4 ⟨s4, e4⟩
          rw [List.length_map, List.take_length] at e4
          refine kQ D2 H4 (s23.free hD2) ⟨_, e4, fun q hq => (r2 q (List.mem_filter.mp hq).1).same s4, ?_⟩ (s23.trans s4)
          unfold convV
          rw [← r3, List.filter_map]; rfl
end
end CP
/-! leading, drawable, carries_to and draw of a value that is no record: NoRecord leaves -/
namespace CP
open PySem PySem.Spec PyProof.Rows L2
abbrev sLeading : Stmt := top 54
abbrev sDrawable : Stmt := top 55
abbrev sCarriesTo : Stmt := top 56
abbrev sDraw : Stmt := top 66
def spLeadE (C Cr : Addr) : Sp := fun vs H _ E => ∃ (g : Addr) (ns : List Str) (es : List Ed) (x y : V) (d d2 : PyData) (i : Int), vs = [.ref g, x, y] ∧ GrAt C H g ns es ∧ Od H x d ∧ OdT C H y d2 ∧ (∀ ds, itD d = some ds → ds.length < 200) ∧ (∀ ds, itD d2 = some ds → ds.length < 200) ∧
  recBad ns (es.map (·.2)) d = none ∧ recBad ns (es.map (·.2)) d2 = some i ∧ RaisesAt H E Cr i
section
variable {P : Program} {w : World} {K : PySem.W.Frag} {mg : Str → Option Value} {base : Heap}
abbrev nLeading : List Str := ["graph", "one", "other", "bits", "basis", "left", "recipe"]
theorem scLeading : FnScope nLeading ["graph", "one", "other"] (defScope sLeading) := ⟨rfl, rfl, rfl, by decide +kernel, rfl, by decide +kernel, by decide +kernel⟩
theorem ok_leadE {f fR C Cr : Addr} {fd fdR : FuncData} (F : Fun K "leading" "leading" sLeading f fd)
    (mR : mg "check_record" = some (.ref fR)) (FR : FnOk P w K mg base (L2.CX P w) 5 fR fdR ["graph", "value"] (spCheckR C Cr)) (kR : PySem.W.keepIn K (.ref fR) = true) (bR : Binds K fdR ["graph", "value"] []) :
    FnOk P w K mg base (L2.CX P w) 6 f fd ["graph", "one", "other"] (spLeadE C Cr) := by
  refine F.okX scLeading (fun vs H Q E h => ?_) (fun cdv A outer s H vs Q E hr h => ?_)
  · obtain ⟨g, ns, es, x, y, d, d2, i, rfl, _⟩ := h; rfl
  · obtain ⟨g, ns, es, x, y, d, d2, i, rfl, G, o, o2, len, len2, nb, hb, kE⟩ := h
    refine ⟨_, pss_cons (ps_expr (pe_call FR hr rfl mR kR bR .nil (passes_call (E := E) (takes_of rfl rfl rfl rfl) fun _ _ _ _ h => h) (pa_cons (pv 0) (pa_cons (pv 1) pa_nil))))
      (pss_cons (ps_expr (pe_call FR hr rfl mR kR bR .nil (passes_call (E := E) (takes_of rfl rfl rfl rfl) fun _ _ _ _ h => h) (pa_cons (pv 0) (pa_cons (pv 2) pa_nil)))) pss_never), ?_⟩
    refine ⟨_, rfl, _, rfl, g, ns, es, x, d, rfl, G, .inl o, len, (fun j hj => by rw [nb] at hj; cases hj), fun _ H1 s1 => ?_⟩
    refine ⟨_, rfl, _, rfl, g, ns, es, y, d2, rfl, G.same s1, o2.same s1, len2, fun j hj dd H' h1 h2 h3 => ?_, fun nn => by rw [hb] at nn; cases nn⟩
    rw [hb] at hj
    obtain rfl := Option.some.inj hj
    exact kE dd H' (s1.free h1) h2 (s1.trans h3)
end
end CP
/-! lemmas -/
namespace CP
open PySem PySem.Spec PyProof.Rows L2
theorem eqv_P (p q : E2 × E2) : PyData.eqv (pD p) (pD q) = decide (p = q) := by
  have h : PyData.eqv (pD p) (pD q) = (PyData.eqv (encE p.1) (encE q.1) && PyData.eqv (encE p.2) (encE q.2)) := by simp [pD, PyData.eqv, PyData.eqvAll]
  rw [h, eqv_E, eqv_E]
  obtain ⟨a, b⟩ := p; obtain ⟨c, d⟩ := q
  by_cases h1 : a = c <;> by_cases h2 : b = d <;> simp [h1, h2]
theorem any_P (k : E2 × E2) (ps : List (E2 × E2)) : ((ps.map pD).any fun z => PyData.eqv z (pD k)) = decide (k ∈ ps) := by
  rw [List.any_map]
  by_cases c : k ∈ ps
  · rw [decide_eq_true c]
    exact List.any_eq_true.mpr ⟨k, c, by show PyData.eqv (pD k) (pD k) = true; rw [eqv_P]; simp⟩
  · rw [decide_eq_false c]
    cases h : ps.any ((fun z => PyData.eqv z (pD k)) ∘ pD) with
    | false => rfl
    | true =>
      obtain ⟨q, hq, z⟩ := List.any_eq_true.mp h
      have z : PyData.eqv (pD q) (pD k) = true := z
      rw [eqv_P] at z
      exact absurd (of_decide_eq_true z ▸ hq) c
theorem eqv_str_any {x : Str} {d : PyData} (h : PyData.eqv (.str x) d = true) : d = .str x := by
  cases d <;> simp [PyData.eqv] at h
  rw [h]
theorem eqv_tup_any {ds : List PyData} {d : PyData} (h : PyData.eqv (.tuple ds) d = true) : ∃ es, d = .tuple es ∧ PyData.eqvAll ds es = true := by
  cases d <;> simp [PyData.eqv] at h
  exact ⟨_, rfl, h⟩
theorem eqvAll_two {a b : PyData} {es : List PyData} (h : PyData.eqvAll [a, b] es = true) : ∃ x y, es = [x, y] ∧ PyData.eqv a x = true ∧ PyData.eqv b y = true := by
  match es, h with
  | [x, y], h =>
    simp [PyData.eqvAll] at h
    exact ⟨x, y, rfl, h.1, h.2⟩
  | [], h => simp [PyData.eqvAll] at h
  | [_], h => simp [PyData.eqvAll] at h
  | _ :: _ :: _ :: _, h => simp [PyData.eqvAll] at h
theorem eqv_enc_any {e : E2} {d : PyData} (h : PyData.eqv (encE e) d = true) : d = encE e := by
  obtain ⟨es, rfl, h⟩ := eqv_tup_any h
  obtain ⟨x, y, rfl, h1, h2⟩ := eqvAll_two h
  rw [eqv_str_any h1, eqv_str_any h2]; rfl
theorem eqv_pD_any {p : E2 × E2} {d : PyData} (h : PyData.eqv (pD p) d = true) : d = pD p := by
  obtain ⟨es, rfl, h⟩ := eqv_tup_any h
  obtain ⟨x, y, rfl, h1, h2⟩ := eqvAll_two h
  rw [eqv_enc_any h1, eqv_enc_any h2]; rfl
theorem any_pr {ns : List Str} {es : List E2} (hs : AscE es) (eo : ∀ e ∈ es, EdOk ns e) (d : PyData) : (((pairsOf es).map pD).any fun z => PyData.eqv z d) = prB ns es d := by
  cases c : prB ns es d with
  | true =>
    have m := pr_has hs c
    have e : pD (ppOf d) = d := by
      unfold prB at c; split at c
      · rename_i a b
        simp only [Bool.and_eq_true] at c
        have enc : ∀ {x : PyData}, edB ns es x = true → encE (edOf x) = x := fun {x} hx => by
          unfold edB at hx; split at hx
          · rfl
          · cases hx
        show PyData.tuple [encE (edOf a), encE (edOf b)] = _
        rw [enc c.1, enc c.2.1]
      · cases c
    exact List.any_eq_true.mpr ⟨pD (ppOf d), List.mem_map.mpr ⟨_, m, rfl⟩, by rw [e]; rw [← e, eqv_P]; simp⟩
  | false =>
    cases h : ((pairsOf es).map pD).any fun z => PyData.eqv z d with
    | false => rfl
    | true =>
      obtain ⟨x, hx, q⟩ := List.any_eq_true.mp h
      obtain ⟨p, hp, rfl⟩ := List.mem_map.mp hx
      have := eqv_pD_any q
      subst this
      obtain ⟨m1, m2, ap⟩ := pairs_mem hp
      have lt := pairs_lt hs hp
      have ed : ∀ {f : E2}, f ∈ es → edB ns es (encE f) = true := fun {f} hf => by
        obtain ⟨b1, b2, b3⟩ := eo _ hf
        show ((decide (f.1 ∈ ns) && (decide (f.2 ∈ ns) && ltS f.1 f.2)) && decide ((f.1, f.2) ∈ es)) = true
        rw [decide_eq_true b1, decide_eq_true b2, b3, decide_eq_true (show (f.1, f.2) ∈ es from hf)]; rfl
      have : prB ns es (pD p) = true := by
        show (edB ns es (encE p.1) && (edB ns es (encE p.2) && (ltE p.1 p.2 && apB p.1 p.2))) = true
        rw [ed m1, ed m2, lt, ap]; rfl
      rw [this] at c; cases c
theorem rec_good {ns : List Str} {es : List E2} (asc : AscE es) (eo : ∀ e ∈ es, EdOk ns e) : ∀ {ps : List (E2 × E2)} {seen : List (E2 × E2)} {i : Nat}, ps.Nodup → (∀ p ∈ ps, p ∈ pairsOf es) → (∀ p ∈ ps, p ∉ seen) → badFrom ns es seen i (ps.map pD) = none
  | [], _, _, _, _, _ => rfl
  | p :: ps, seen, i, nd, sub, ns' => by
    obtain ⟨n1, n2⟩ := List.nodup_cons.mp nd
    have b : prB ns es (pD p) = true := by
      rw [← any_pr asc eo, any_P]; exact decide_eq_true (sub p List.mem_cons_self)
    have c : decide (ppOf (pD p) ∈ seen) = false := decide_eq_false (ns' p List.mem_cons_self)
    show (if (prB ns es (pD p) && !decide (ppOf (pD p) ∈ seen)) = true then badFrom ns es (ppOf (pD p) :: seen) (i + 1) (ps.map pD) else some i) = none
    rw [b, c]
    refine (if_pos rfl).trans (rec_good asc eo n2 (fun q hq => sub q (List.mem_cons_of_mem _ hq)) fun q hq z => ?_)
    rcases List.mem_cons.mp z with z | z
    · exact n1 ((show q = p from z) ▸ hq)
    · exact ns' q (List.mem_cons_of_mem _ hq) z
theorem recBad_list {ns : List Str} {es : List E2} (ds : List PyData) : recBad ns es (.list ds) = (badFrom ns es [] 0 ds).map fun i => (i : Int) := rfl
theorem okP_in {es : List E2} (okE : ∀ f ∈ es, OkE f) {p : E2 × E2} (h : p ∈ pairsOf es) : OkP p := ⟨okE _ (pairs_mem h).1, okE _ (pairs_mem h).2.1⟩
theorem if_k {t u : TS} {D : Ends} {σ : L2.St} {H : Hp} {b : Bool} (R : L2.St → Hp → Prop) (hk : ∀ σ' H', R σ' H' → D.nx σ' H') (h : (∀ σ' H', R σ' H' → D.nx σ' H') → (b = true → t D σ H) ∧ (b = false → u D σ H)) : if b = true then t D σ H else u D σ H := by
  obtain ⟨h1, h2⟩ := h hk
  cases b with
  | true => exact h1 rfl
  | false => exact h2 rfl
def hide (a : Addr) (H : Hp) : Hp := fun b => if b = a then none else H b
theorem hide_ne {a b : Addr} {H : Hp} (h : b ≠ a) : hide a H b = H b := if_neg h
theorem hide_some {a b : Addr} {H : Hp} {o : HO} (h : hide a H b = some o) : b ≠ a ∧ H b = some o := by
  unfold hide at h
  by_cases c : b = a
  · rw [if_pos c] at h; cases h
  · rw [if_neg c] at h; exact ⟨c, h⟩
theorem But.hide {a : Addr} {H H' : Hp} (B : But a H H') : Same (hide a H) (hide a H') := fun b o e => by
  obtain ⟨n, e⟩ := hide_some e
  rw [hide_ne n]; exact B b o n e
theorem hide_same {a : Addr} {H : Hp} : Same (hide a H) H := fun b o e => (hide_some e).2
theorem hide_at {a p : Addr} {H : Hp} {o : HO} (n : p ≠ a) (h : H p = some o) : hide a H p = some o := by rw [hide_ne n]; exact h
theorem to_hide {p : Addr} {H : Hp} : But p H (hide p H) := fun b o n e => hide_at n e
theorem cut_dropN (xs : List V) (i : Nat) : cutV xs (some (i : Int)) none = xs.drop i := by
  unfold cutV
  rw [HT.sIx_nat, HT.sIx_none]
  by_cases c : i ≤ xs.length
  · rw [Nat.min_eq_left c, List.take_of_length_le (by rw [List.length_drop]; exact Nat.le_refl _)]
  · rw [Nat.min_eq_right (by omega), List.drop_of_length_le (by omega : xs.length ≤ i), List.drop_length]; simp
theorem GrAt.but {C a : Addr} {H H' : Hp} {g : Addr} {ns : List Str} {es : List Ed} (S : Src H a) (B : But a H H') (G : GrAt C H g ns es) : GrAt C H' g ns es := by
  obtain ⟨⟨dx, t1, t2, e1, e2, e3⟩, ed⟩ := G
  obtain ⟨x, y, z, q⟩ := id S
  exact ⟨⟨dx, t1, t2, B _ _ (ne_of e1 q (fun z => by cases z)) e1, B _ _ (ne_of e2 q (fun z => by cases z)) e2, B _ _ (ne_of e3 q (fun z => by cases z)) e3⟩, fun p hp => EdAt.but S B (ed p hp)⟩
theorem Same.but {a : Addr} {H0 H H' : Hp} (s : Same H0 H) (h : H0 a = none) (B : But a H H') : Same H0 H' := fun c o e => B c o (ne_of_none e h) (s c o e)
theorem ArgsOk.same {H H' : Hp} {a b : Addr} {ns : List Str} {ks : List Ed} (A : ArgsOk H a b ns ks) (s : Same H H') : ArgsOk H' a b ns ks :=
  ⟨s _ _ A.na, A.n0, A.n8, A.nd, A.nm, s _ _ A.ea, fun p hp => s _ _ (A.ed p hp), A.eo, A.en, A.el⟩
theorem ArgsOk.but {H H' : Hp} {p a b : Addr} {ns : List Str} {ks : List Ed} (A : ArgsOk H a b ns ks) (S : Src H p) (na : a ≠ p) (nb : b ≠ p) (B : But p H H') : ArgsOk H' a b ns ks :=
  ⟨B _ _ na A.na, A.n0, A.n8, A.nd, A.nm, B _ _ nb A.ea, fun q hq => EdAt.but S B (A.ed q hq), A.eo, A.en, A.el⟩
theorem PrsAt.but {H H' : Hp} {p l : Addr} {ps : List (E2 × E2)} (h : PrsAt H l ps) (S : Src H p) (nl : l ≠ p) (B : But p H H') : PrsAt H' l ps := by
  obtain ⟨qs, a, b, c⟩ := h
  obtain ⟨x, y, z, q⟩ := id S
  exact ⟨qs, B _ _ nl a, fun r hr => ⟨B _ _ (ne_of (b r hr).ob q (fun z => by cases z)) (b r hr).ob, EdAt.but S B (b r hr).one, EdAt.but S B (b r hr).two⟩, c⟩
theorem od_edge {H : Hp} {p : Ed} (h : EdAt H p) : Od H (.ref p.1) (encE p.2) := .tup h (.cons (.str _) (.cons (.str _) .nil))
theorem od_pairs {H : Hp} : ∀ {qs : List Pr}, (∀ q ∈ qs, PrAt H q) → OdAll H (qs.map fun q => V.ref q.1) ((qs.map prV).map pD)
  | [], _ => .nil
  | q :: qs, h => .cons (.tup (h q List.mem_cons_self).ob (.cons (od_edge (h q List.mem_cons_self).one) (.cons (od_edge (h q List.mem_cons_self).two) .nil))) (od_pairs fun x hx => h x (List.mem_cons_of_mem _ hx))
theorem PrsAt.od {H : Hp} {l : Addr} {ps : List (E2 × E2)} (h : PrsAt H l ps) : Od H (.ref l) (.list (ps.map pD)) := by
  obtain ⟨qs, a, b, rfl⟩ := h
  exact .lst a (od_pairs b)
theorem pp_pD (p : E2 × E2) : ppOf (pD p) = p := rfl
theorem pps (ps : List (E2 × E2)) : (ps.map pD).map ppOf = ps := by rw [List.map_map]; exact List.map_id _
theorem pairs_len : ∀ es : List E2, 2 * (pairsOf es).length + es.length ≤ es.length * es.length
  | [] => by decide
  | e :: es => by
    have ih := pairs_len es
    rw [pairsOf_cons, List.length_append, List.length_map, List.length_cons]
    have f := List.length_filter_le (apB e) es
    have : (es.length + 1) * (es.length + 1) = es.length * es.length + 2 * es.length + 1 := by rw [Nat.add_mul, Nat.mul_add]; omega
    omega
theorem pairs_few {es : List E2} (h : es.length ≤ 18) : (pairsOf es).length ≤ 153 := by
  have a := pairs_len es
  have : es.length * es.length ≤ 17 * es.length + es.length := by
    have : es.length * es.length ≤ 18 * es.length := Nat.mul_le_mul_right _ h
    omega
  have : 2 * (pairsOf es).length ≤ 17 * es.length := by omega
  omega
theorem asc_sort {ks : List Ed} (nd : (ks.map (·.2)).Nodup) : AscE ((sortE ks).map (·.2)) := List.pairwise_map.mpr (sortE_lt nd)
theorem perm_sort (ks : List Ed) : (ks.map (·.2)).Perm ((sortE ks).map (·.2)) := ((sortE_perm ks).map (·.2)).symm
theorem edB_perm {ns : List Str} {es fs : List E2} (h : es.Perm fs) (d : PyData) : edB ns es d = edB ns fs d := by
  unfold edB; split
  · rw [decide_eq_decide.mpr (h.mem_iff)]
  · rfl
theorem sum_shown {B : Nat} : ∀ {ds : List PyData}, (∀ d ∈ ds, d.shown.length ≤ B) → ((PyData.shownAll ds).map (·.length)).sum ≤ B * ds.length
  | [], _ => by simp [PyData.shownAll]
  | d :: ds, h => by
    have a := h d List.mem_cons_self
    have b := sum_shown (ds := ds) fun x hx => h x (List.mem_cons_of_mem _ hx)
    simp only [PyData.shownAll, List.map_cons, List.sum_cons, List.length_cons]
    rw [Nat.mul_add]; omega
theorem shown_list {B : Nat} {ds : List PyData} (h : ∀ d ∈ ds, d.shown.length ≤ B) : (PyData.list ds).shown.length ≤ (B + 2) * ds.length + 3 := by
  have a := listText_len_le (PyData.shownAll ds)
  have b := sum_shown h
  have c := PyData.shownAll_length ds
  have e : (PyData.list ds).shown = listText (PyData.shownAll ds) := by first | rfl | simp [PyData.shown]
  rw [e, Nat.add_mul]; rw [c] at a; omega
theorem shown_tup {B : Nat} {ds : List PyData} (h : ∀ d ∈ ds, d.shown.length ≤ B) : (PyData.tuple ds).shown.length ≤ (B + 2) * ds.length + 3 := by
  have a := tupleText_len_le (PyData.shownAll ds)
  have b := sum_shown h
  have c := PyData.shownAll_length ds
  have e : (PyData.tuple ds).shown = tupleText (PyData.shownAll ds) := by first | rfl | simp [PyData.shown]
  rw [e, Nat.add_mul]; rw [c] at a; omega
theorem name_len : ∀ z ∈ base8, (PyData.str z).shown.length ≤ 10 := by decide +kernel
theorem two_len {x y : PyData} {B : Nat} (hx : x.shown.length ≤ B) (hy : y.shown.length ≤ B) : (PyData.tuple [x, y]).shown.length ≤ 2 * B + 7 := by
  have := shown_tup (B := B) (ds := [x, y]) (fun d hd => by
    simp only [List.mem_cons, List.not_mem_nil, or_false] at hd
    rcases hd with rfl | rfl
    · exact hx
    · exact hy)
  have e : [x, y].length = 2 := rfl
  rw [e] at this; omega
theorem enc_len {e : E2} (h1 : e.1 ∈ base8) (h2 : e.2 ∈ base8) : (encE e).shown.length ≤ 27 := two_len (name_len _ h1) (name_len _ h2)
theorem show_row : ∀ {ds : List PyData}, (∀ d ∈ ds, d.showable = true) → PyData.showableAll ds = true
  | [], _ => by simp [PyData.showableAll]
  | d :: ds, h => by simp [PyData.showableAll, h d List.mem_cons_self, show_row fun x hx => h x (List.mem_cons_of_mem _ hx)]
theorem pD_show (p : E2 × E2) : (pD p).showable = true := by simp [pD, encE, PyData.showable, PyData.showableAll]
def rCatL (K : PySem.W.Frag) : R2 := fun x y H Q => ∃ l b xs zs, x = .ref l ∧ y = .ref b ∧ SqL K H l xs ∧ SqL K H b zs ∧ xs.length + zs.length ≤ sizeLine ∧ ∀ p, H p = none → Q (.ref p) (L2.upd H p (.lst (xs ++ zs)))
theorem op_catL {X : Cx} : OpR X (binaryOp .Add) (rCatL X.K) := by
  intro pins s σ H x y v u Q I rx ry h
  obtain ⟨l, b, xs, zs, rfl, rfl, hl, hb, hz, q⟩ := h
  cases rx
  cases ry
  obtain ⟨vs, r, ⟨⟨c1, d1, da1, s1⟩, n1, g1, hc1, hd1, hda1⟩, z1⟩ := I.list hl
  obtain ⟨ws, r2, ⟨⟨c2, d2, da2, s2⟩, n2, g2, hc2, hd2, hda2⟩, z2⟩ := I.list hb
  simp only at hc1 hda1 hc2 hda2
  subst hc1 hda1 hc2 hda2
  have lv := r.length
  have lw := r2.length
  refine concat_meets ⟨_, g1, rfl⟩ ⟨_, g2, rfl⟩ noFill_list_add seq_list_add PySem.F.slot_list_add PySem.F.entry_list_add (PySem.F.args_list_add_2 _ _)
    (list_addW l b vs.toArray ws.toArray n1 n2 d1 d2 s1 s2 (by rw [List.size_toArray, List.size_toArray]; omega)) ⟨g1, g2, ?_⟩
  have e : vs.toArray ++ ws.toArray = (vs ++ ws).toArray := by simp
  rw [e]
  exact ⟨.ref _, _, I.lnew (t' := s.toks) (r.append r2) (by rw [List.length_append]; omega), rfl, q _ I.fresh⟩
theorem pD_shaped {p : E2 × E2} (h : OkP p) : SeqAt.shaped (pD p) = true := by
  have := pD_depth p
  unfold SeqAt.shaped; rw [pD_lay h, this]; simp
theorem pr_enc {ns : List Str} {es : List E2} {d : PyData} (c : prB ns es d = true) : pD (ppOf d) = d := by
  unfold prB at c; split at c
  · rename_i a b
    simp only [Bool.and_eq_true] at c
    have enc : ∀ {x : PyData}, edB ns es x = true → encE (edOf x) = x := fun {x} hx => by
      unfold edB at hx; split at hx
      · rfl
      · cases hx
    show PyData.tuple [encE (edOf a), encE (edOf b)] = _
    rw [enc c.1, enc c.2.1]
  · cases c
theorem nodup_len {α : Type} [DecidableEq α] : ∀ {l m : List α}, l.Nodup → (∀ x ∈ l, x ∈ m) → l.length ≤ m.length
  | [], _, _, _ => Nat.zero_le _
  | x :: l, m, nd, sub => by
    obtain ⟨n1, n2⟩ := List.nodup_cons.mp nd
    have hx := sub x List.mem_cons_self
    have ih := nodup_len (m := m.erase x) n2 fun y hy => (List.mem_erase_of_ne (fun e : y = x => n1 (e ▸ hy))).mpr (sub y (List.mem_cons_of_mem _ hy))
    have := (List.perm_cons_erase hx).length_eq
    simp only [List.length_cons] at this ⊢
    omega
theorem units65 {n : Nat} {A : Around} (hr : Room n A) : A.units + 65 < cLine := by have := hr.un; omega
end CP
/-! drawable, carries_to, draw of a value that is no record -/
namespace CP
open PySem PySem.Spec PyProof.Rows L2
/-- a graph's own facts -/
structure GOk (ns : List Str) (es : List E2) : Prop where
  n0 : 0 < ns.length
  n8 : ns.length ≤ 8
  nd : ns.Nodup
  nm : ∀ z ∈ ns, NameOk z
  eo : ∀ e ∈ es, EdOk ns e
  el : es.length ≤ 18
  asc : AscE es
theorem GOk.okE {ns : List Str} {es : List E2} (g : GOk ns es) {e : E2} (h : e ∈ es) : OkE e := ⟨(g.nm _ (g.eo e h).1).strOk, (g.nm _ (g.eo e h).2.1).strOk⟩
def spDrawE (C Cr : Addr) : Sp := fun vs H _ E => ∃ (g : Addr) (ns : List Str) (es : List Ed) (y : V) (d2 : PyData) (i : Int), vs = [.ref g, y] ∧ GrAt C H g ns es ∧ GOk ns (es.map (·.2)) ∧ OdT C H y d2 ∧ (∀ ds, itD d2 = some ds → ds.length < 200) ∧ recBad ns (es.map (·.2)) d2 = some i ∧ RaisesAt H E Cr i
theorem conv_good {ns : List Str} {es : List E2} (ok : GOk ns es) (os : List Str) : recBad ns es (.list ((convV es os).map pD)) = none := by
  have nd : (convV es os).Nodup := (asc_nd (pairs_asc ok.asc)).sublist (List.filter_sublist)
  have sub : ∀ q ∈ convV es os, q ∈ pairsOf es := fun q hq => (List.mem_filter.mp hq).1
  rw [recBad_list, rec_good ok.asc ok.eo nd sub (fun _ _ z => by cases z)]; rfl
section
variable {P : Program} {w : World} {K : PySem.W.Frag} {mg : Str → Option Value} {base : Heap}
theorem scDrawable : FnScope ["graph", "record"] ["graph", "record"] (defScope sDrawable) := ⟨rfl, rfl, rfl, by decide +kernel, rfl, by decide +kernel, by decide +kernel⟩
theorem ok_drawableE {f fL fC C Cr Cn : Addr} {fd fdL fdC : FuncData} (F : Fun K "drawable" "drawable" sDrawable f fd) (T : GTxt K mg C)
    (mL : mg "leading" = some (.ref fL)) (FL : FnOk P w K mg base (L2.CX P w) 6 fL fdL ["graph", "one", "other"] (spLeadE C Cr)) (kL : PySem.W.keepIn K (.ref fL) = true) (bL : Binds K fdL ["graph", "one", "other"] [])
    (mC : mg "convex" = some (.ref fC)) (FC : FnOk P w K mg base (L2.CX P w) 3 fC fdC ["graph", "order"] (spConvex C Cn)) (kC : PySem.W.keepIn K (.ref fC) = true) (bC : Binds K fdC ["graph", "order"] []) :
    FnOk P w K mg base (L2.CX P w) 7 f fd ["graph", "record"] (spDrawE C Cr) := by
  refine F.okX scDrawable (fun vs H Q E h => ?_) (fun cdv A outer s H vs Q E hr h => ?_)
  · obtain ⟨g, ns, es, y, d2, i, rfl, _⟩ := h; rfl
  · obtain ⟨g, ns, es, y, d2, i, rfl, G, ok, o2, len2, hb, kE⟩ := h
    have hr3 : Room 3 _ := hr.mono (by decide)
    refine ⟨_, pss_one (ps_ret (pe_call FL hr rfl mL kL bL .nil (passes_call (E := E) (takes_of rfl rfl rfl rfl) fun _ _ _ _ h => h) (pa_cons (pv 0) (pa_cons
      (pe_call FC hr3 rfl mC kC bC .nil (passes_call (E := E) (takes_of rfl rfl rfl rfl) fun _ _ _ _ h => h) (pa_cons (pv 0) (pa_cons (pe_fld (pv 0) rfl) pa_nil))) (pa_cons (pv 1) pa_nil))))), ?_⟩
    obtain ⟨⟨dx, t1, t2, g1, g2, g3⟩, ge⟩ := id G
    have ord : orB ns (.tuple (ns.map PyData.str)) = true := ord_true ok.nd (fun z h => h) rfl
    have inO : ∀ e ∈ es, InO ns e.2 := fun e he => by
      have := ok.eo e.2 (List.mem_map.mpr ⟨e, he, rfl⟩)
      exact ⟨this.1, this.2.1⟩
    have el : es.length ≤ 18 := by have := ok.el; rw [List.length_map] at this; exact this
    refine ⟨_, rfl, _, rfl, _, rfl, g, C, dx, _, _, rfl, g1, T.cl, T.nV, gf_v _ _, g, ns, es, _, .tuple (ns.map PyData.str), rfl, G, ok.n8, by omega, inO, .tup g2 (odTxt ns), (fun z => by rw [ord] at z; cases z), fun _ l H1 hl R1 s1 => ?_⟩
    have cl : (convV (es.map (·.2)) (osOf (.tuple (ns.map PyData.str)))).length ≤ 153 := Nat.le_trans (List.length_filter_le _ _) (pairs_few ok.el)
    refine ⟨_, rfl, g, ns, es, _, _, _, d2, i, rfl, G.same s1, R1.od, o2.same s1, (fun ds h => ?_), len2, conv_good ok _, hb, fun dd H' h1 h2 h3 => kE dd H' (s1.free h1) h2 (s1.trans h3)⟩
    obtain rfl := Option.some.inj h
    rw [List.length_map]; omega
theorem scCarriesTo : FnScope ["graph", "record", "word", "row"] ["graph", "record"] (defScope sCarriesTo) := ⟨rfl, rfl, rfl, by decide +kernel, rfl, by decide +kernel, by decide +kernel⟩
theorem ok_carriesToE {f fD C Cr : Addr} {fd fdD : FuncData} (F : Fun K "carries_to" "carries_to" sCarriesTo f fd)
    (mD : mg "drawable" = some (.ref fD)) (FD : FnOk P w K mg base (L2.CX P w) 7 fD fdD ["graph", "record"] (spDrawE C Cr)) (kD : PySem.W.keepIn K (.ref fD) = true) (bD : Binds K fdD ["graph", "record"] []) :
    FnOk P w K mg base (L2.CX P w) 8 f fd ["graph", "record"] (spDrawE C Cr) := by
  refine F.okX scCarriesTo (fun vs H Q E h => ?_) (fun cdv A outer s H vs Q E hr h => ?_)
  · obtain ⟨g, ns, es, y, d2, i, rfl, _⟩ := h; rfl
  · obtain ⟨g, ns, es, y, d2, i, rfl, G, ok, o2, len2, hb, kE⟩ := h
    refine ⟨_, pss_cons (ps_asg (pe_call FD hr rfl mD kD bD .nil (passes_call (E := E) (takes_of rfl rfl rfl rfl) fun _ _ _ _ h => h) (pa_cons (pv 0) (pa_cons (pv 1) pa_nil))) (pg_tup rfl (pgs_cons (pg_name (i := 2) scCarriesTo.nd rfl (Or.inl rfl)) (pgs_cons (pg_name (i := 3) scCarriesTo.nd rfl (Or.inl rfl)) pgs_nil)))) pss_never, ?_⟩
    exact ⟨_, rfl, _, rfl, g, ns, es, y, d2, i, rfl, G, ok, o2, len2, hb, kE⟩
abbrev nDraw : List Str := ["graph", "record", "carries", "points", "lines", "number", "edge", "at", "vertex", "pulled"]
theorem scDraw : FnScope nDraw ["graph", "record"] (defScope sDraw) := ⟨rfl, rfl, rfl, by decide +kernel, rfl, by decide +kernel, by decide +kernel⟩
theorem ok_drawE {f fD C Cr : Addr} {fd fdD : FuncData} (F : Fun K "draw" "draw" sDraw f fd)
    (mD : mg "carries_to" = some (.ref fD)) (FD : FnOk P w K mg base (L2.CX P w) 8 fD fdD ["graph", "record"] (spDrawE C Cr)) (kD : PySem.W.keepIn K (.ref fD) = true) (bD : Binds K fdD ["graph", "record"] []) :
    FnOk P w K mg base (L2.CX P w) 9 f fd ["graph", "record"] (spDrawE C Cr) := by
  refine F.okX scDraw (fun vs H Q E h => ?_) (fun cdv A outer s H vs Q E hr h => ?_)
  · obtain ⟨g, ns, es, y, d2, i, rfl, _⟩ := h; rfl
  · obtain ⟨g, ns, es, y, d2, i, rfl, G, ok, o2, len2, hb, kE⟩ := h
    refine ⟨_, pss_cons (ps_set (i := 2) scDraw.nd rfl (Or.inl rfl) (pe_call FD hr rfl mD kD bD .nil (passes_call (E := E) (takes_of rfl rfl rfl rfl) fun _ _ _ _ h => h) (pa_cons (pv 0) (pa_cons (pv 1) pa_nil)))) pss_never, ?_⟩
    exact ⟨_, rfl, _, rfl, g, ns, es, y, d2, i, rfl, G, ok, o2, len2, hb, kE⟩
end
end CP
/-! _law_said at a value that is no record -/
namespace CP
open PySem PySem.Spec PyProof.Rows L2
abbrev sSaid : Stmt := top 76
/-- isinstance of the caught error: one class, or a tuple of classes -/
def rIsXd (K : PySem.W.Frag) (C a : Addr) (cls : Value) (d : Option Addr) : List V → Hp → VK → Prop := fun xs H Q => ∃ (c : V) (u : Value) (b : Bool) (dd : Addr) (fs : List (Str × V)), xs = [.ref a, c] ∧ cls = .ref C ∧ d = some dd ∧ H dd = some (.xd fs) ∧ ClsV c u ∧ PySem.W.kitOne K (.ref C) u = some b ∧ Q (.bl b) H
def rIsXdT (K : PySem.W.Frag) (C a : Addr) (cls : Value) (d : Option Addr) : List V → Hp → VK → Prop := fun xs H Q => ∃ (tp : Addr) (cs : List V) (ws : List Value) (b : Bool) (dd : Addr) (fs : List (Str × V)), xs = [.ref a, .ref tp] ∧ cls = .ref C ∧ d = some dd ∧ H dd = some (.xd fs) ∧ H tp = some (.tup cs) ∧ Paired ClsV cs ws ∧ PySem.W.kitAny K (.ref C) ws = some b ∧ Q (.bl b) H
section
variable {X : Cx} {a C : Addr} {oe : Obj} {cls : Value} {d : Option Addr} {pn : List (Addr × Obj)}
theorem caught_at {pins : List (Addr × Obj)} {σ : L2.St} {H : Hp} {s : Shared} {dd : Addr} {fs : List (Str × V)} (hz : Zc (.ref C) (some dd) oe) (hf : ∃ vs, oe.data = .fields vs) (I : L2.Inv (X.suite a ((a, oe) :: pn)) pins σ H s) (ea : H dd = some (.xd fs)) : ∃ od, PySem.W.InstAt s.heap a oe C (some od) := by
  have got := (I.pin (a, oe) (List.mem_append_left _ List.mem_cons_self)).1
  obtain ⟨vs, hd⟩ := hf
  obtain ⟨mA, hns, _⟩ := (show ObjOk X.prog X.w H s.heap dd (.xd fs) from I.hok dd _ ea)
  obtain ⟨od, ho, _⟩ := lookIn_ns hns
  exact ⟨od, got, hz.1, by unfold PySem.W.notCls; rw [hd], by rw [hz.2]; exact ho⟩
theorem call_isXd (T : XCls X.K C) (hz : Zc cls d oe) (hf : ∃ vs, oe.data = .fields vs) : CallR (X.suite a ((a, oe) :: pn)) (.builtin "isinstance") (rIsXd X.K C a cls d) := by
  intro pins s σ H xs us Q I r ⟨c, u, b, dd, fs, e0, e1, e2, ea, k, e, q⟩
  subst e0 e1 e2
  obtain ⟨u1, u2, rfl, r1, r2⟩ := vals2 r
  have e2 := k.eq r2
  subst e2
  cases (show u1 = Value.ref a from r1)
  obtain ⟨od, J⟩ := caught_at hz hf I ea
  exact PySem.W.kia_one (PySem.W.kitx_exc (od := some od) T.cl T.ga T.gg T.sb T.ca T.sg T.tk T.mo) I.kIn J e (fun z => nomatch z) fun tk => ⟨.bl b, H, I.tok tk, rfl, q⟩
theorem call_isXdT (T : XCls X.K C) (hz : Zc cls d oe) (hf : ∃ vs, oe.data = .fields vs) : CallR (X.suite a ((a, oe) :: pn)) (.builtin "isinstance") (rIsXdT X.K C a cls d) := by
  intro pins s σ H xs us Q I r ⟨tp, cs, ws, b, dd, fs, e0, e1, e2, ea, hT, k, e, q⟩
  subst e0 e1 e2
  obtain ⟨u1, u2, rfl, r1, r2⟩ := vals2 r
  cases (show u2 = Value.ref tp from r2)
  cases (show u1 = Value.ref a from r1)
  obtain ⟨od, J⟩ := caught_at hz hf I ea
  obtain ⟨_, its, rv, ⟨oc, odd, dt, sl⟩, h1, h2, n, h3⟩ := (show ObjOk X.prog X.w H s.heap tp (.tup cs) from I.hok tp _ hT)
  have e3 := ClsV.all k rv
  subst e3
  simp only at h2 h3
  subst h2 h3
  exact PySem.W.kia_tup (PySem.W.kitx_exc (od := some od) T.cl T.ga T.gg T.sb T.ca T.sg T.tk T.mo) I.kIn J h1 e (fun z => nomatch z) fun tk => ⟨.bl b, H, I.tok tk, rfl, q⟩
end
def spSaid (C : Addr) : Sp := fun vs H Q _ => ∃ (g : Addr) (ns : List Str) (es : List Ed) (y : V) (d2 : PyData) (i : Int), vs = [.ref g, y] ∧ GrAt C H g ns es ∧ GOk ns (es.map (·.2)) ∧ OdT C H y d2 ∧ (∀ ds, itD d2 = some ds → ds.length < 200) ∧ recBad ns (es.map (·.2)) d2 = some i ∧
  ∀ t H', H t = none → H' t = some (.tup [.str "no record", .int i]) → Same H H' → Q (.ref t) H'
section
variable {P : Program} {w : World} {K : PySem.W.Frag} {mg : Str → Option Value} {base : Heap}
theorem scSaid : FnScope ["_law_board", "_law_record", "e"] ["_law_board", "_law_record"] (defScope sSaid) := ⟨rfl, rfl, rfl, by decide +kernel, rfl, by decide +kernel, by decide +kernel⟩
theorem ok_said {f fF C Cr B Cc Cd Ce Cg Cw : Addr} {fd fdF : FuncData} (F : Fun K "_law_said" "_law_said" sSaid f fd) (mi : mg "isinstance" = none) (TR : XCls K Cr) (fR : XfC K Cr) (no : PySem.W.findIn K (.ref Cr) "at" = some none) (te : PySem.W.exmOne K (.ref Cr) (.ref B) = some true)
    (mB : mg "ParityError" = some (.ref B)) (mR : mg "NoRecord" = some (.ref Cr)) (mCc : mg "NoCarry" = some (.ref Cc)) (mCd : mg "NoDrawing" = some (.ref Cd)) (mCe : mg "NoEdge" = some (.ref Ce)) (mCg : mg "NoGraph" = some (.ref Cg)) (mCw : mg "NotDrawable" = some (.ref Cw))
    (kR : PySem.W.kitOne K (.ref Cr) (.ref Cr) = some true) (kN : PySem.W.kitAny K (.ref Cr) [.ref Cc, .ref Cd, .ref Ce, .ref Cg, .ref Cw] = some false)
    (mF : mg "draw" = some (.ref fF)) (GF : FnOk P w K mg base (L2.CX P w) 9 fF fdF ["graph", "record"] (spDrawE C Cr)) (kF : PySem.W.keepIn K (.ref fF) = true) (bF : Binds K fdF ["graph", "record"] []) : FnOk P w K mg base CX0 10 f fd ["_law_board", "_law_record"] (spSaid C) := by
  refine F.ok scSaid (fun vs H Q E h => ?_) (fun cdv A outer s H vs Q E hr h => ?_)
  · obtain ⟨g, ns, es, y, d2, i, rfl, _⟩ := h; rfl
  · obtain ⟨g, ns, es, y, d2, i, rfl, G, ok, o, len, hb, k⟩ := h
    refine ⟨_, pss_cons (ps_try_as (i := 2) rfl rfl scSaid.nd rfl rfl ⟨rfl, by decide, .inl mB⟩ takes0
        (fun W pn xe tk _ => pss_one (ps_expr (pe_callS GF hr rfl mF kF bF (fun σ => passAt tk σ) (pa_cons (pv 0) (pa_cons (pv 1) pa_nil)))))
        (fun a oe cls d pn hz hf => pss_cons (ps_if (PW.pt (pw_and (pt_val (pe_callB (call_isXd TR hz hf) (by rfl) mi (by decide +kernel) (pa_cons (pv 2) (pa_cons (pe_glob (v := .ref Cr) rfl mR rfl) pa_nil))))
          (pw_and1 (pt_not (pt_val (pe_callB (call_isXdT TR hz hf) (by rfl) mi (by decide +kernel) (pa_cons (pv 2) (pa_cons (pe_tup (pa_cons (pe_glob (v := .ref Cc) rfl mCc rfl) (pa_cons (pe_glob (v := .ref Cd) rfl mCd rfl) (pa_cons (pe_glob (v := .ref Ce) rfl mCe rfl) (pa_cons (pe_glob (v := .ref Cg) rfl mCg rfl) (pa_cons (pe_glob (v := .ref Cw) rfl mCw rfl) pa_nil)))))) pa_nil))))))))
            (pss_one (ps_ret (pe_tup (pa_cons pe_str (pa_cons (pe_xf fR no hz hf (pv 2)) pa_nil))))) pss_nil) (pss_one (ps_ret pe_str))))
      (pss_one (ps_ret pe_str)), ?_⟩
    refine ⟨_, rfl, _, rfl, g, ns, es, y, d2, i, rfl, G, ok, o, len, hb, fun dd H' hdd hx s1 => ?_⟩
    refine ⟨true, te, fun _ a ha => ?_, fun q => nomatch q⟩
    refine ⟨_, rfl, _, _, true, dd, _, rfl, rfl, rfl, hx, .own _, kR, _, rfl, iteT ?_⟩
    refine ⟨_, rfl, by show 5 ≤ sizeLine; decide, fun tp htp => ?_⟩
    have s2 := Same.new (o := .tup [.ref Cc, .ref Cd, .ref Ce, .ref Cg, .ref Cw]) htp
    refine ⟨tp, _, _, false, dd, _, rfl, rfl, rfl, s2 _ _ hx, upd_same, .cons (.own _) (.cons (.own _) (.cons (.own _) (.cons (.own _) (.cons (.own _) .nil)))), kN, _, rfl, iteT ?_⟩
    refine ⟨_, rfl, rfl, rfl, dd, _, _, rfl, s2 _ _ hx, rfl, by show 2 ≤ sizeLine; decide, fun t ht => ?_⟩
    have s12 := s1.trans s2
    exact k t _ (s12.free ht) upd_same (s12.trans (Same.new ht))
end
end CP
/-! repr(x) of a list or a tuple whose items may hold dicts without items -/
namespace CP
open PySem PySem.Spec PyProof.Rows L2
def Shows (P : Program) (w : World) (h : Heap) (u : Value) (d : PyData) : Prop := (∃ as, Reads h u d as) ∧ (d.showable = true → d.shown.length ≤ sizeLine → ∃ bs, ReadAtMost h d.depth bs ∧ ReprK P w bs h d.depth u d.shown)
def ShowsAll (P : Program) (w : World) (h : Heap) (us : List Value) (ds : List PyData) : Prop := (∃ as, ReadsAll h us ds as) ∧ (PyData.showableAll ds = true → (∀ t ∈ PyData.shownAll ds, t.length ≤ sizeLine) → ∃ bs, ReadAtMost h (PyData.depthAll ds) bs ∧ ReprAllK P w bs h (PyData.depthAll ds) us (PyData.shownAll ds))
section
variable {P : Program} {w : World} {h : Heap}
theorem shows_flat {u : Value} {d : PyData} {as : List Addr} (r : Reads h u d as) (n : d.hasDict = false) : Shows P w h u d :=
  ⟨⟨as, r⟩, fun hs hz => ReprK.of_reads r hs (fun z => by rw [n] at z; cases z) hz⟩
theorem shows_dict {a : Addr} (r : Reads h (.ref a) (.dict []) [a]) (n : (a == sysModules) = false) : Shows P w h (.ref a) (.dict []) :=
  ⟨⟨_, r⟩, fun hs hz => ReprK.of_reads r hs (fun _ z => by
    obtain rfl : sysModules = a := by simpa using z
    simp at n) hz⟩
theorem shows_lst {a : Addr} {us : List Value} {n : Nat} {ds : List PyData} (g : h.get? a = some { cls := .type "list", data := .seq us.toArray n }) (al : ShowsAll P w h us ds) : Shows P w h (.ref a) (.list ds) := by
  obtain ⟨⟨as, ra⟩, q⟩ := al
  have rd : Reads h (.ref a) (.list ds) (a :: as) := Reads.list g rfl rfl (by simpa using ra)
  refine ⟨⟨_, rd⟩, fun hs hz => ?_⟩
  have small : (listText (PyData.shownAll ds)).length ≤ sizeLine := by simpa only [PyData.shown] using hz
  obtain ⟨bs, low, each⟩ := q (by simpa [PyData.showable] using hs) fun t m => Nat.le_trans (listText_mem_le m) small
  have out : a ∉ bs := not_mem_of_deeper rd (by simp only [PyData.depth]; omega) low
  refine ⟨a :: bs, ReadAtMost.cons rd (by simp only [PyData.depth]; omega) low, ?_⟩
  simp only [PyData.depth, PyData.shown]
  cases us with
  | nil =>
    cases ra
    simp only [PyData.shownAll, listText_nil]
    exact ReprK.listEmpty g rfl rfl
  | cons u us => exact ReprK.list g rfl rfl out (by simpa using each.length_eq) fun i y e => each.item i y (by simpa using e)
theorem shows_tup {a : Addr} {us : List Value} {ds : List PyData} (g : IsTup h a us.toArray) (al : ShowsAll P w h us ds) : Shows P w h (.ref a) (.tuple ds) := by
  obtain ⟨⟨as, ra⟩, q⟩ := al
  obtain ⟨o, ho, hc, n, hd⟩ := g
  have rd : Reads h (.ref a) (.tuple ds) as := Reads.tuple ho hc hd (by simpa using ra)
  refine ⟨⟨_, rd⟩, fun hs hz => ?_⟩
  have small : (tupleText (PyData.shownAll ds)).length ≤ sizeLine := by simpa only [PyData.shown] using hz
  obtain ⟨bs, low, each⟩ := q (by simpa [PyData.showable] using hs) fun t m => Nat.le_trans (tupleText_mem_le m) small
  have out : a ∉ bs := not_mem_of_deeper rd (by simp only [PyData.depth]; omega) low
  refine ⟨a :: bs, ReadAtMost.cons rd (by simp only [PyData.depth]; omega) low, ?_⟩
  simp only [PyData.depth, PyData.shown]
  exact ReprK.tuple ho hc hd out (by simpa using each)
theorem shows_nil : ShowsAll P w h [] [] := ⟨⟨_, .nil⟩, fun _ _ => ⟨[], (fun _ z => nomatch z), by simp only [PyData.shownAll]; exact .nil⟩⟩
theorem shows_cons {u : Value} {us : List Value} {d : PyData} {ds : List PyData} (x : Shows P w h u d) (xs : ShowsAll P w h us ds) : ShowsAll P w h (u :: us) (d :: ds) := by
  obtain ⟨⟨as, r⟩, q⟩ := x
  obtain ⟨⟨bs, rs⟩, qs⟩ := xs
  refine ⟨⟨_, .cons r rs⟩, fun hs hz => ?_⟩
  have hs' : d.showable = true ∧ PyData.showableAll ds = true := by simpa only [PyData.showableAll, Bool.and_eq_true] using hs
  obtain ⟨b1, l1, k1⟩ := q hs'.1 (hz _ (by rw [PyData.shownAll]; exact .head _))
  obtain ⟨b2, l2, k2⟩ := qs hs'.2 fun t m => hz t (by rw [PyData.shownAll]; exact .tail _ m)
  simp only [PyData.depthAll, PyData.shownAll]
  refine ⟨b1 ++ b2, fun b m => ?_, .cons ((k1.more fun b z => List.mem_append.mpr (.inl z)).level_le (Nat.le_max_left _ _)) (k2.more_le (fun b z => List.mem_append.mpr (.inr z)) (Nat.le_max_right _ _))⟩
  rcases List.mem_append.mp m with m | m
  · obtain ⟨e, cs, z, le⟩ := l1 b m
    exact ⟨e, cs, z, Nat.le_trans le (Nat.le_max_left _ _)⟩
  · obtain ⟨e, cs, z, le⟩ := l2 b m
    exact ⟨e, cs, z, Nat.le_trans le (Nat.le_max_right _ _)⟩
end
section
variable {X : Cx} {pins : List (Addr × Obj)} {σ : L2.St} {H : Hp} {s : Shared}
mutual
theorem Od.shows (I : L2.Inv X pins σ H s) : ∀ {v : V} {d : PyData} {u : Value}, Od H v d → RelV v u → Shows X.prog X.w s.heap u d
  | _, _, _, .non, r => by cases r; exact shows_flat .none rfl
  | _, _, _, .bl b, r => by cases r; exact shows_flat (.bool b) rfl
  | _, _, _, .int i, r => by obtain ⟨t, rfl⟩ := r; exact shows_flat (.int i t) rfl
  | _, _, _, .str x, r => by obtain ⟨t, rfl⟩ := r; exact shows_flat (.str x t) rfl
  | _, _, _, .lst h al, r => by
    cases r
    obtain ⟨_, its, n, rv, g⟩ := I.hok _ _ h
    exact shows_lst g (OdAll.shows I al rv)
  | _, _, _, .tup h al, r => by
    cases r
    obtain ⟨_, its, rv, g⟩ := I.hok _ _ h
    exact shows_tup g (OdAll.shows I al rv)
  | _, _, _, .dct h, r => by
    cases r
    obtain ⟨_, na, vs, kv, o, es, ep, g, ex, hd, _, ps, _⟩ := I.hok _ _ h
    cases kv
    have e0 : es.toList = [] := by
      cases q : es.toList with
      | nil => rfl
      | cons _ _ => rw [q] at ps; cases ps
    have hc : o.cls = .type "dict" := ex.1
    exact shows_dict (by
      have := Reads.dict (h := s.heap) (kvs := []) (as := []) (bs := []) g hc hd (by rw [e0]; exact .nil) (by rw [e0]; exact .nil)
      simpa using this) na
theorem OdAll.shows (I : L2.Inv X pins σ H s) : ∀ {vs : List V} {ds : List PyData} {us : List Value}, OdAll H vs ds → Vals vs us → ShowsAll X.prog X.w s.heap us ds
  | _, _, _, .nil, r => by cases r; exact shows_nil
  | _, _, _, .cons o al, r => by
    cases r with
    | cons r1 r2 => exact shows_cons (Od.shows I o r1) (OdAll.shows I al r2)
end
end
section
variable {X : Cx}
/-- repr(x) of a row that may hold dicts -/
def rReprO : List V → Hp → VK → Prop := fun xs H Q => ∃ (a : Addr) (d : PyData), xs = [.ref a] ∧ Od H (.ref a) d ∧ rowB d = true ∧ d.showable = true ∧ d.depth ≤ 60 ∧ d.shown.length ≤ sizeLine ∧ Q (.str d.shown) H
theorem call_reprO (gds : X.A.guards = some []) (hu : X.A.units + 64 < cLine) : CallR X (.builtin "repr") rReprO := by
  intro pins s σ H xs us Q I r h
  obtain ⟨a, d, rfl, o, rb, h1, h3, h4, q⟩ := h
  rw [Vals.ref1 r]
  have fin : ∀ h' u tk, (∀ b o, s.heap.get? b = some o → h'.get? b = some o) → ∃ x H1, L2.Inv X pins σ H1 { s with heap := h', toks := tk } ∧ RelV x (.str d.shown u) ∧ Q x H1 := fun h' u tk hk => ⟨.str d.shown, H, I.kept (t' := tk) hk, ⟨_, rfl⟩, q⟩
  cases o with
  | @lst _ xs ds hl al =>
    obtain ⟨_, its, n, rv, g⟩ := I.hok _ _ hl
    have al := OdAll.shows I al rv
    obtain ⟨⟨as, ra⟩, qq⟩ := id al
    have rd : Reads s.heap (.ref a) (.list ds) (a :: as) := Reads.list g rfl rfl (by simpa using ra)
    have small : (listText (PyData.shownAll ds)).length ≤ sizeLine := by simpa only [PyData.shown] using h4
    obtain ⟨bs, low, each⟩ := qq (by simpa [PyData.showable] using h1) fun t m => Nat.le_trans (listText_mem_le m) small
    have out : a ∉ bs := not_mem_of_deeper rd (by simp only [PyData.depth]; omega) low
    simp only [PyData.depth] at h3
    simp only [PyData.shown] at fin
    refine call_repr_slot (by omega) ⟨_, g, rfl⟩ F.slot_list_repr.toG ?_
    cases its with
    | nil =>
      cases ra
      simp only [PyData.shownAll, listText_nil] at fin
      exact call_list_repr_empty ⟨_, g, rfl⟩ g rfl ⟨_, _, rfl, fin s.heap _ _ fun _ _ e => e⟩
    | cons u its =>
      exact call_list_reprK g rfl rfl out (by simpa using each.length_eq) (fun i y e => each.item i y (by simpa using e)) gds (fun b _ => Clear.nil b) (by show X.A.units + 1 + _ < cLine; omega) (fun _ _ z => z) (fun h' u tk hk => ⟨_, _, rfl, fin h' u tk hk⟩) small
  | @tup _ xs ds hl al =>
    obtain ⟨_, its, rv, o, ho, hc, n, hd⟩ := I.hok _ _ hl
    have al := OdAll.shows I al rv
    obtain ⟨⟨as, ra⟩, qq⟩ := id al
    have rd : Reads s.heap (.ref a) (.tuple ds) as := Reads.tuple ho hc hd (by simpa using ra)
    have small : (tupleText (PyData.shownAll ds)).length ≤ sizeLine := by simpa only [PyData.shown] using h4
    obtain ⟨bs, low, each⟩ := qq (by simpa [PyData.showable] using h1) fun t m => Nat.le_trans (tupleText_mem_le m) small
    have out : a ∉ bs := not_mem_of_deeper rd (by simp only [PyData.depth]; omega) low
    simp only [PyData.depth] at h3
    simp only [PyData.shown] at fin
    refine call_repr_slot (by omega) ⟨_, ho, hc⟩ F.slot_tuple_repr ?_
    exact call_tuple_reprK ho hc hd out (by simpa using each) gds (fun b _ => Clear.nil b) (by show X.A.units + 1 + _ < cLine; omega) (fun _ _ z => z) (fun h' u tk hk => ⟨_, _, rfl, fin h' u tk hk⟩) small
  | dct _ => cases rb
end
end CP
/-! t[::-1] of a pair -/
namespace CP
open PySem PySem.Spec PyProof.Rows L2
section
variable {prog : Program} {w : World} {A : Around} {E : Value → Shared → Prop} {s : Shared}
theorem rev2_applied {sl : Addr} {v1 v2 v3 : Value} {Q : Int × Int × Nat → Shared → Prop} (hs : s.heap.IsSliceOf sl v1 v2 v3) (p1 : IsPart v1 none) (p2 : IsPart v2 none) (p3 : IsPart v3 (some (-1))) (h : Q (1, -1, 2) s) :
    wpAny (model prog w) A (Builtin.Slice.sliceApplied (.ref sl) (pure ((2 : Nat) : Int))) Q E s := by
  obtain ⟨o, ho, hc, hd⟩ := id hs
  unfold Builtin.Slice.sliceApplied Builtin.Slice.sliceFields
  refine wpAny_bind (wpAny_bind (wpAny_field ho hd (x := v1) rfl (wpAny_bind (wpAny_field ho hd (x := v2) rfl (wpAny_bind (wpAny_field ho hd (x := v3) rfl (wpAny_pure ?_)))))))
  refine wpAny_bind (HT.slicePart_ p3 ?_)
  show wpAny _ _ (if ((-1 : Int) == 0) = true then _ else _) _ _ s
  rw [if_neg (by decide)]
  refine wpAny_bind (HT.slicePart_ p1 (wpAny_bind (HT.slicePart_ p2 (wpAny_bind (wpAny_pure ?_)))))
  exact wpAny_pure h
theorem getItem_rev2 {t sl : Addr} {x y v1 v2 v3 : Value} {Q : Value → Shared → Prop} (ht : IsTup s.heap t #[x, y]) (hs : s.heap.IsSliceOf sl v1 v2 v3) (p1 : IsPart v1 none) (p2 : IsPart v2 none) (p3 : IsPart v3 (some (-1)))
    (h : Q (.ref s.heap.objs.size) { s with heap := s.heap.push { cls := .type "tuple", data := .seq #[y, x] } }) : wpAny (model prog w) A (getItem (.ref t) (.ref sl)) Q E s := by
  have fit : sizeOk (.seq #[y, x]) := by show 2 ≤ sizeLine; decide
  obtain ⟨o, ho, hc, hd⟩ := id hs
  have tS : s.TypeIs (.ref sl) "slice" := ⟨o, ho, hc⟩
  unfold getItem
  try with_reducible refine wpAny_holding ?_
  first | refine wpAny_bind (wpAny_pure ?_) | skip
  refine wpAny_bind (wpAny_sequenceKey ht.typeIs (by decide) ?_)
  refine wpAny_bind (wpAny_callSpecial?_slot (name := Str.ofString "__getitem__") ht.typeIs slot_tuple_getitem (wpAny_call_entry slot_tuple_getitem ht.typeIs entry_tuple_getitem ?_ (args_tuple_getitem _ _)))
  show wpAny _ _ (Builtin.Tuple.tupleItemsOf (.ref t) >>= _) _ _ s
  refine wpAny_bind (tupleItemsOf_ ht (wpAny_bind (wpAny_typeOf tS ?_)))
  rw [if_pos (by decide)]
  refine wpAny_bind (rev2_applied hs p1 p2 p3 ?_)
  show wpAny _ _ (if (((1 : Int) == 0 && (-1 : Int) == 1 && (2 : Nat) == 2) = true) then _ else _) _ _ s
  rw [if_neg (by decide)]
  have e : ((List.range 2).filterMap fun (m : Nat) => (#[x, y] : Array Value)[((1 : Int) + (m : Int) * (-1)).toNat]?).toArray = #[y, x] := rfl
  rw [e]
  first
    | exact wpAny_bind (m := Builtin.Tuple.tupleExact _) (wpAny_newObj_type (wpAny_pure ⟨_, rfl, wpAny_pure h⟩) fit)
    | exact wpAny_bind (m := Builtin.Tuple.tupleExact _) (wpAny_newObj_type (wpAny_bind (wpAny_pure (wpAny_pure ⟨_, rfl, wpAny_pure h⟩))) fit)
    | exact wpAny_bind (wpAny_bind (m := Builtin.Tuple.tupleExact _) (wpAny_newObj_type (wpAny_pure (wpAny_pure ⟨_, rfl, wpAny_pure h⟩)) fit))
    | exact wpAny_bind (wpAny_bind (m := Builtin.Tuple.tupleExact _) (wpAny_newObj_type (wpAny_pure ⟨_, rfl, wpAny_pure h⟩) fit))
end
/-- t[::-1], t a pair -/
def tRev2 (te : TE) : TE := fun σ H Q => te σ H fun x H1 => ∃ a u v, x = .ref a ∧ H1 a = some (.tup [u, v]) ∧ ∀ p, H1 p = none → Q (.ref p) (L2.upd H1 p (.tup [v, u]))
theorem pe_rev2 {X : Cx} {e : Expr} {te : TE} {k : Nat} {p1 p2 p3 pos : Pos} (he : PE X e te) : PE X (.Subscript e (.Slice none none (some (.UnaryOp .USub (.Constant (.int 1) k p1) p2)) p3) pos) (tRev2 te) := by
  refine ⟨fun pins s σ H Q I h => Subscript_ (thn (he.run pins s σ H _ I h) fun v s1 ⟨x, H1, I1, r1, a, y, z, ex, hx, q⟩ => ?_)⟩
  subst ex
  cases r1
  have st : PO X (some (.UnaryOp .USub (.Constant (.int 1) k p1) p2)) (tPart (tUn (rU fun i => .int (-i)) (tC (.int 1)))) := po_some (pe_un un_neg pe_int)
  refine wpAny_Slice (thn (po_none.run pins s1 σ H1 (fun o H2 => o = none ∧ H2 = H1) I1 ⟨rfl, rfl⟩) fun v1 s2 ⟨o1, H2, I2, q1, eo1, e2⟩ => thn (po_none.run pins s2 σ H2 (fun o H3 => o = none ∧ H3 = H1) I2 ⟨rfl, e2⟩) fun v2 s3 ⟨o2, H3, I3, q2, eo2, e3⟩ => thn (st.run pins s3 σ H3 (fun o H4 => o = some (-1) ∧ H4 = H1) I3 ⟨1, rfl, -1, rfl, rfl, e3⟩) fun v3 s4 ⟨o3, H4, I4, q3, eo3, e4⟩ => ?_)
  subst eo1 eo2 eo3
  subst e4
  have I5 : L2.Inv X pins σ H4 { s4 with heap := s4.heap.push { cls := .type "slice", data := .fields #[v1, v2, v3] } } := I4.kept (t' := s4.toks) fun b ob z => Heap.get?_push_of_some _ z
  obtain ⟨its, r, ht, hz⟩ := I5.tuple (SqT.of hx)
  obtain ⟨u1, u2, rfl, ra, rb⟩ := vals2 r
  show wpAny _ _ (subscriptTail e (.Slice none none _ p3) (.ref a) (.ref s4.heap.objs.size)) _ _ _
  refine tail_any (ops := [.ref a, .ref s4.heap.objs.size]) ht.typeIs (slot_tuple_getitem.lookup) ?_ (by with_unfolding_all rfl)
  refine getItem_rev2 ht (Heap.IsSliceOf.new _ v1 v2 v3) q1 q2 q3 ?_
  exact ⟨.ref _, _, I5.laid (t' := s4.toks) (o := .tup [z, y]) (fun b ob q => Heap.get?_push_of_some _ q) (Nat.le_refl _) ⟨by show 2 ≤ sizeLine; decide, [u2, u1], .cons rb (.cons ra .nil), IsTup.new _ _⟩, rfl, q _ (I5.hok.fresh (Nat.le_refl _))⟩
end CP
/-! lemmas: values that are no pairs; _law_cell_at -/
namespace CP
open PySem PySem.Spec PyProof.Rows L2
abbrev sCell : Stmt := top 68
theorem op_notInD2 {X : Cx} (K : PySem.W.Frag) (h : X.K = K) (hu : X.A.units + 65 < cLine) : OpR X (compareOp .NotIn) (rNotInD K) := h ▸ op_notInD hu
def rListOf (K : PySem.W.Frag) : List V → Hp → VK → Prop := fun xs H Q => ∃ p ys, xs = [.ref p] ∧ (SqL K H p ys ∨ SqT K H p ys) ∧ ∀ l, H l = none → Q (.ref l) (L2.upd H l (.lst ys))
theorem call_list2 {X : Cx} (K : PySem.W.Frag) (h : X.K = K) : CallR X (.type "list") (rListOf K) := by subst h; exact call_list_of
theorem odTake {H : Hp} : ∀ {xs : List V} {ds : List PyData} (n : Nat), OdAll H xs ds → OdAll H (xs.take n) (ds.take n)
  | _, _, _, .nil => by simp; exact .nil
  | _, _, 0, .cons o t => .nil
  | _, _, n + 1, .cons o t => .cons o (odTake n t)
theorem odDrop {H : Hp} : ∀ {xs : List V} {ds : List PyData} (n : Nat), OdAll H xs ds → OdAll H (xs.drop n) (ds.drop n)
  | _, _, _, .nil => by simp; exact .nil
  | _, _, 0, .cons o t => .cons o t
  | _, _, n + 1, .cons o t => odDrop n t
theorem odApp {H : Hp} : ∀ {xs ys : List V} {ds es : List PyData}, OdAll H xs ds → OdAll H ys es → OdAll H (xs ++ ys) (ds ++ es)
  | _, _, _, _, .nil, h => h
  | _, _, _, _, .cons o t, h => .cons o (odApp t h)
/-- data that is short when shown -/
structure Sm (B D : Nat) (d : PyData) : Prop where
  sh : d.showable = true
  len : d.shown.length ≤ B
  dep : d.depth ≤ D
theorem Sm.mono {B D B' D' : Nat} {d : PyData} (h : Sm B D d) (b : B ≤ B') (c : D ≤ D') : Sm B' D' d := ⟨h.sh, Nat.le_trans h.len b, Nat.le_trans h.dep c⟩
theorem depth_all {D : Nat} : ∀ {ds : List PyData}, (∀ d ∈ ds, d.depth ≤ D) → PyData.depthAll ds ≤ D
  | [], _ => by simp [PyData.depthAll]
  | d :: ds, h => by
    have a := h d List.mem_cons_self
    have b := depth_all (ds := ds) fun x hx => h x (List.mem_cons_of_mem _ hx)
    simp only [PyData.depthAll]; omega
theorem sm_tup {B D : Nat} {ds : List PyData} (h : ∀ d ∈ ds, Sm B D d) : Sm ((B + 2) * ds.length + 3) (D + 1) (.tuple ds) :=
  ⟨by simpa [PyData.showable] using show_row fun d hd => (h d hd).sh, shown_tup fun d hd => (h d hd).len, by
    have := depth_all fun d hd => (h d hd).dep
    simp only [PyData.depth]; omega⟩
theorem sm_lst {B D : Nat} {ds : List PyData} (h : ∀ d ∈ ds, Sm B D d) : Sm ((B + 2) * ds.length + 3) (D + 1) (.list ds) :=
  ⟨by simpa [PyData.showable] using show_row fun d hd => (h d hd).sh, shown_list fun d hd => (h d hd).len, by
    have := depth_all fun d hd => (h d hd).dep
    simp only [PyData.depth]; omega⟩
theorem all1 {p : PyData → Prop} {a : PyData} (h : p a) : ∀ d ∈ [a], p d := fun d hd => by
  simp only [List.mem_cons, List.not_mem_nil, or_false] at hd
  subst hd; exact h
theorem all2 {p : PyData → Prop} {a b : PyData} (h : p a) (g : p b) : ∀ d ∈ [a, b], p d := fun d hd => by
  simp only [List.mem_cons, List.not_mem_nil, or_false] at hd
  rcases hd with rfl | rfl
  · exact h
  · exact g
theorem all3 {p : PyData → Prop} {a b c : PyData} (h : p a) (g : p b) (k : p c) : ∀ d ∈ [a, b, c], p d := fun d hd => by
  simp only [List.mem_cons, List.not_mem_nil, or_false] at hd
  rcases hd with rfl | rfl | rfl
  · exact h
  · exact g
  · exact k
theorem sm_str {z : Str} (h : z ∈ base8) : Sm 10 0 (.str z) := ⟨by simp [PyData.showable], name_len z h, by simp [PyData.depth]⟩
theorem sm_edge {e : E2} (h1 : e.1 ∈ base8) (h2 : e.2 ∈ base8) : Sm 27 1 (encE e) := sm_tup (all2 (sm_str h1) (sm_str h2))
theorem sm_edL {e : E2} (h1 : e.1 ∈ base8) (h2 : e.2 ∈ base8) : Sm 27 1 (.list [.str e.1, .str e.2]) := sm_lst (all2 (sm_str h1) (sm_str h2))
/-- data that is no pair -/
structure BadD (ns : List Str) (es : List E2) (d : PyData) : Prop where
  no : prB ns es d = false
  sm : Sm 300 5 d
def BadIn (p : Addr) (ns : List Str) (es : List E2) (H : Hp) (x : V) : Prop := ∃ d, Od (hide p H) x d ∧ BadD ns es d
theorem BadIn.but {p : Addr} {ns : List Str} {es : List E2} {H H' : Hp} {x : V} (h : BadIn p ns es H x) (B : But p H H') : BadIn p ns es H' x := let ⟨d, o, k⟩ := h; ⟨d, o.same (But.hide B), k⟩
theorem bad_grow {p : Addr} {ns : List Str} {es : List E2} {H H' : Hp} {L : List V} {y : V} (h : ∀ x ∈ L, BadIn p ns es H x) (s : Same H H') (b : BadIn p ns es H' y) : ∀ x ∈ L ++ [y], BadIn p ns es H' x := fun x hx => by
  rcases List.mem_append.mp hx with hx | hx
  · exact (h x hx).but (But.of_same s)
  · simp only [List.mem_cons, List.not_mem_nil, or_false] at hx
    subst hx; exact b
theorem bad_app {p : Addr} {ns : List Str} {es : List E2} {H H' : Hp} {L M : List V} (h : ∀ x ∈ L, BadIn p ns es H x) (B : But p H H') (b : ∀ x ∈ M, BadIn p ns es H' x) : ∀ x ∈ L ++ M, BadIn p ns es H' x := fun x hx => by
  rcases List.mem_append.mp hx with hx | hx
  · exact (h x hx).but B
  · exact b x hx
theorem badO_new {p o : Addr} {ns : List Str} {es : List E2} {H : Hp} {L : List V} {ob : HO} (h : ∀ x ∈ L, BadIn p ns es H x) (n : H o = none) : ∀ x ∈ L, BadIn p ns es (hide o (L2.upd H o ob)) x := fun x m => (h x m).but (But.of_same fun b u e => by rw [hide_ne (ne_of_none e n), upd_ne (ne_of_none e n)]; exact e)
theorem badO_same {p o : Addr} {ns : List Str} {es : List E2} {H H' : Hp} {L : List V} (h : ∀ x ∈ L, BadIn p ns es (hide o H) x) (s : Same H H') : ∀ x ∈ L, BadIn p ns es (hide o H') x := fun x m => (h x m).but (But.of_same (But.hide (But.of_same s)))
theorem badO_out {p o : Addr} {ns : List Str} {es : List E2} {H : Hp} {L : List V} (h : ∀ x ∈ L, BadIn p ns es (hide o H) x) : ∀ x ∈ L, BadIn p ns es H x := fun x m => (h x m).but (But.of_same hide_same)
theorem badO_upd {o : Addr} {H : Hp} {ob : HO} : hide o (L2.upd H o ob) = hide o H := by
  funext b; unfold hide
  by_cases c : b = o
  · rw [if_pos c, if_pos c]
  · rw [if_neg c, if_neg c, upd_ne c]
theorem od_newT {p q : Addr} {H : Hp} {xs : List V} {ds : List PyData} (S : Src H p) (hq : H q = none) (al : OdAll (hide p H) xs ds) : Od (hide p (L2.upd H q (.tup xs))) (.ref q) (.tuple ds) := .tup (hide_at (S.ne hq) upd_same) (al.same (But.hide (But.new hq)))
theorem od_newL {p q : Addr} {H : Hp} {xs : List V} {ds : List PyData} (S : Src H p) (hq : H q = none) (al : OdAll (hide p H) xs ds) : Od (hide p (L2.upd H q (.lst xs))) (.ref q) (.list ds) := .lst (hide_at (S.ne hq) upd_same) (al.same (But.hide (But.new hq)))
theorem od_newD {p q : Addr} {H : Hp} (S : Src H p) (hq : H q = none) : Od (hide p (L2.upd H q (.dK []))) (.ref q) (.dict []) := .dct (hide_at (S.ne hq) upd_same)
/-- the texts that no graph here has as names -/
theorem no_q {ns : List Str} (h : ∀ z ∈ ns, z ∈ base8) : ("q" : Str) ∉ ns ∧ ("s" : Str) ∉ ns := ⟨fun z => absurd (h ("q" : Str) z) (by decide +kernel), fun z => absurd (h ("s" : Str) z) (by decide +kernel)⟩
theorem edB_first {ns : List Str} {es : List E2} {u v : Str} (h : u ∉ ns) : edB ns es (.tuple [.str u, .str v]) = false := by
  show ((decide (u ∈ ns) && (decide (v ∈ ns) && ltS u v)) && decide ((u, v) ∈ es)) = false
  rw [decide_eq_false h]; rfl
theorem prB_fst {ns : List Str} {es : List E2} {a b : PyData} (h : edB ns es a = false) : prB ns es (.tuple [a, b]) = false := by
  show (edB ns es a && (edB ns es b && (ltE (edOf a) (edOf b) && apB (edOf a) (edOf b)))) = false
  rw [h]; rfl
theorem prB_snd {ns : List Str} {es : List E2} {a b : PyData} (h : edB ns es b = false) : prB ns es (.tuple [a, b]) = false := by
  show (edB ns es a && (edB ns es b && (ltE (edOf a) (edOf b) && apB (edOf a) (edOf b)))) = false
  rw [h]; simp
theorem prB_lt {ns : List Str} {es : List E2} {a b : E2} (h : ltE a b = false) : prB ns es (.tuple [encE a, encE b]) = false := by
  show (edB ns es (encE a) && (edB ns es (encE b) && (ltE a b && apB a b))) = false
  rw [h]; simp
theorem edB_rev {ns : List Str} {es : List E2} {e : E2} (h : EdOk ns e) : edB ns es (.tuple [.str e.2, .str e.1]) = false := by
  show ((decide (e.2 ∈ ns) && (decide (e.1 ∈ ns) && ltS e.2 e.1)) && decide ((e.2, e.1) ∈ es)) = false
  have : ltS e.2 e.1 = false := ltS_asymm h.2.2
  rw [this]; simp
theorem bad_consts {ns : List Str} {es : List E2} (h : ∀ z ∈ ns, z ∈ base8) : BadD ns es .none ∧ BadD ns es (.int 5) ∧ BadD ns es (.str "ab") ∧ BadD ns es (.tuple []) ∧ BadD ns es (.list []) ∧ BadD ns es (.dict []) ∧ BadD ns es (.tuple [.tuple [.str "a", .str "b"]]) ∧ BadD ns es (.tuple [.tuple [.str "q", .str "r"], .tuple [.str "s", .str "t"]]) ∧
    BadD ns es (.tuple [.dict [], .list []]) ∧ BadD ns es (.tuple [.list [], .tuple [.str "a", .str "b"]]) := by
  refine ⟨⟨rfl, ?_, ?_, ?_⟩, ⟨rfl, ?_, ?_, ?_⟩, ⟨rfl, ?_, ?_, ?_⟩, ⟨rfl, ?_, ?_, ?_⟩, ⟨rfl, ?_, ?_, ?_⟩, ⟨rfl, ?_, ?_, ?_⟩, ⟨rfl, ?_, ?_, ?_⟩, ⟨prB_fst (edB_first (no_q h).1), ?_, ?_, ?_⟩, ⟨prB_fst rfl, ?_, ?_, ?_⟩, ⟨prB_fst rfl, ?_, ?_, ?_⟩⟩
  all_goals decide +kernel
theorem bad_edges {ns : List Str} {es : List E2} {e : E2} (h : ∀ z ∈ ns, z ∈ base8) (ok : EdOk ns e) : BadD ns es (encE e) ∧ BadD ns es (.tuple [encE e, encE e]) ∧ BadD ns es (.tuple [encE e]) ∧ BadD ns es (.list [encE e, encE e]) ∧ BadD ns es (.tuple [encE e, .tuple [.str "s", .str "t"]]) ∧ BadD ns es (.tuple [encE e, .none]) := by
  have s := sm_edge (e := e) (h _ ok.1) (h _ ok.2.1)
  have st : Sm 27 1 (.tuple [.str "s", .str "t"]) := ⟨by decide +kernel, by decide +kernel, by decide +kernel⟩
  have sn : Sm 27 1 .none := ⟨by decide +kernel, by decide +kernel, by decide +kernel⟩
  exact ⟨⟨rfl, s.mono (by decide) (by decide)⟩, ⟨prB_lt (ltE_irrefl _), (sm_tup (all2 s s)).mono (by simp only [List.length_cons, List.length_nil]; omega) (by decide)⟩, ⟨rfl, (sm_tup (all1 s)).mono (by simp only [List.length_cons, List.length_nil]; omega) (by decide)⟩, ⟨rfl, (sm_lst (all2 s s)).mono (by simp only [List.length_cons, List.length_nil]; omega) (by decide)⟩,
    ⟨prB_snd (edB_first (no_q h).2), (sm_tup (all2 s st)).mono (by simp only [List.length_cons, List.length_nil]; omega) (by decide)⟩, ⟨prB_snd rfl, (sm_tup (all2 s sn)).mono (by simp only [List.length_cons, List.length_nil]; omega) (by decide)⟩⟩
theorem bad_pairs {ns : List Str} {es : List E2} {a b : E2} (h : ∀ z ∈ ns, z ∈ base8) (oa : EdOk ns a) (ob : EdOk ns b) (lt : ltE a b = true) : BadD ns es (.tuple [encE b, encE a]) ∧ BadD ns es (.list [encE a, encE b]) ∧ BadD ns es (.tuple [encE a, encE b, encE a]) ∧ BadD ns es (.tuple [.list [.str a.1, .str a.2], encE b]) ∧ BadD ns es (.tuple [.tuple [.str a.2, .str a.1], encE b]) := by
  have sa := sm_edge (e := a) (h _ oa.1) (h _ oa.2.1)
  have sb := sm_edge (e := b) (h _ ob.1) (h _ ob.2.1)
  have sl := sm_edL (e := a) (h _ oa.1) (h _ oa.2.1)
  have sr : Sm 27 1 (.tuple [.str a.2, .str a.1]) := sm_tup (all2 (sm_str (h _ oa.2.1)) (sm_str (h _ oa.1)))
  exact ⟨⟨prB_lt (ltE_asymm lt), (sm_tup (all2 sb sa)).mono (by simp only [List.length_cons, List.length_nil]; omega) (by decide)⟩, ⟨rfl, (sm_lst (all2 sa sb)).mono (by simp only [List.length_cons, List.length_nil]; omega) (by decide)⟩, ⟨rfl, (sm_tup (all3 sa sb sa)).mono (by simp only [List.length_cons, List.length_nil]; omega) (by decide)⟩,
    ⟨prB_fst rfl, (sm_tup (all2 sl sb)).mono (by simp only [List.length_cons, List.length_nil]; omega) (by decide)⟩, ⟨prB_fst (edB_rev oa), (sm_tup (all2 sr sb)).mono (by simp only [List.length_cons, List.length_nil]; omega) (by decide)⟩⟩
theorem bad_new {ns : List Str} {es : List E2} {a b : E2} (h : ∀ z ∈ ns, z ∈ base8) (oa : EdOk ns a) (ob : EdOk ns b) (no : prB ns es (.tuple [encE a, encE b]) = false) : BadD ns es (.tuple [encE a, encE b]) :=
  ⟨no, (sm_tup (all2 (sm_edge (e := a) (h _ oa.1) (h _ oa.2.1)) (sm_edge (e := b) (h _ ob.1) (h _ ob.2.1)))).mono (by simp only [List.length_cons, List.length_nil]; omega) (by decide)⟩
def spCell (K : PySem.W.Frag) : Sp := fun vs H Q _ => ∃ (a : Addr) (ns : List Int), vs = [.ref a, .int 0] ∧ SqL K H a (ns.map V.int) ∧ ∀ c : Int, Q (.int c) H
section
variable {P : Program} {w : World} {K : PySem.W.Frag} {mg : Str → Option Value} {base : Heap}
theorem scCell : FnScope ["_law_script", "_law_k"] ["_law_script", "_law_k"] (defScope sCell) := ⟨rfl, rfl, rfl, by decide +kernel, rfl, by decide +kernel, by decide +kernel⟩
theorem ok_cell {f : Addr} {fd : FuncData} (F : Fun K "_law_cell_at" "_law_cell_at" sCell f fd) (mlen : mg "len" = none) : FnOk P w K mg base CX0 1 f fd ["_law_script", "_law_k"] (spCell K) := by
  refine F.ok scCell (fun vs H Q E h => ?_) (fun cdv A outer s H vs Q E hr h => ?_)
  · obtain ⟨a, ns, rfl, _⟩ := h; rfl
  · obtain ⟨a, ns, rfl, hS, k⟩ := h
    refine ⟨_, pss_cons (ps_if (pt_cmpR op_lt (pv 1) (pe_callB call_len_seq (by rfl) mlen PySem.boot_len (pa_cons (pv 0) pa_nil)) (nomark _)) (pss_one (ps_ret (pe_ix ix_list (pv 0) (pv 1) (fun _ _ => rfl)))) pss_nil) (pss_one (ps_ret pe_int)), ?_⟩
    refine ⟨_, rfl, _, rfl, a, _, rfl, .inl hS, _, _, rfl, rfl, _, rfl, ?_⟩
    by_cases c : (0 : Int) < ((ns.map V.int).length : Int)
    · rw [decide_eq_true c]
      refine iteT ?_
      cases ns with
      | nil => simp at c
      | cons n ns => exact ⟨_, rfl, _, rfl, a, _, _, _, rfl, rfl, hS, atI_nat (j := 0) rfl, k n⟩
    · rw [decide_eq_false c]
      exact iteF (k 0)
end
end CP
/-! _law_bad_pair -/
namespace CP
open PySem PySem.Spec PyProof.Rows L2
abbrev sBad : Stmt := top 77
def spBad : Sp := fun vs H Q _ => ∃ (p e kn : Addr) (ns : List Str) (ks : List Ed), vs = [.ref p, .ref e, .ref kn] ∧ Src H p ∧ e ≠ p ∧ kn ≠ p ∧ H e = some (.lst (ks.map fun q => V.ref q.1)) ∧ (∀ q ∈ ks, EdAt H q) ∧ GOk ns ((sortE ks).map (·.2)) ∧ (∀ z ∈ ns, z ∈ base8) ∧ PrsAt H kn (pairsOf ((sortE ks).map (·.2))) ∧
  ∀ x H', BadIn p ns ((sortE ks).map (·.2)) H' x → Src H' p → But p H H' → Q x H'
section
variable {P : Program} {w : World} {K : PySem.W.Frag} {mg : Str → Option Value} {base : Heap}
abbrev nBad : List Str := ["_law_source", "_law_edges", "_law_known", "_law_some", "_law_edge", "_law_one_here", "_law_other"]
theorem scBad : FnScope nBad ["_law_source", "_law_edges", "_law_known"] (defScope sBad) := ⟨rfl, rfl, rfl, by decide +kernel, rfl, by decide +kernel, by decide +kernel⟩
theorem ok_bad {f fO : Addr} {fd fdO : FuncData} (F : Fun K "_law_bad_pair" "_law_bad_pair" sBad f fd) (mz : mg "zip" = none) (ml : mg "list" = none)
    (mO : mg "_law_one" = some (.ref fO)) (GO : FnOk P w K mg base CX0 2 fO fdO ["_law_source", "_law_some"] (spOne K)) (kO : PySem.W.keepIn K (.ref fO) = true) (bO : Binds K fdO ["_law_source", "_law_some"] []) :
    FnOk P w K mg base CX0 3 f fd ["_law_source", "_law_edges", "_law_known"] spBad := by
  refine F.ok scBad (fun vs H Q E h => ?_) (fun cdv A outer s H vs Q E hr h => ?_)
  · obtain ⟨p, e, kn, ns, ks, rfl, _⟩ := h; rfl
  · obtain ⟨p, e, kn, ns, ks, rfl, S0, ep, knp, he, hed, gok, b8, R0, k⟩ := h
    have hu65 := units65 hr
    refine ⟨_, pss_cons (ps_set (i := 3) scBad.nd rfl (Or.inl rfl) (pe_lst (pa_cons pe_non (pa_cons pe_int (pa_cons pe_str (pa_cons (pe_tup pa_nil) (pa_cons (pe_lst pa_nil) (pa_cons pe_dnewK (pa_cons (pe_tup (pa_cons (pe_tup (pa_cons pe_str (pa_cons pe_str pa_nil))) pa_nil))
          (pa_cons (pe_tup (pa_cons (pe_tup (pa_cons pe_str (pa_cons pe_str pa_nil))) (pa_cons (pe_tup (pa_cons pe_str (pa_cons pe_str pa_nil))) pa_nil))) (pa_cons (pe_tup (pa_cons pe_dnewK (pa_cons (pe_lst pa_nil) pa_nil))) (pa_cons (pe_tup (pa_cons (pe_lst pa_nil) (pa_cons (pe_tup (pa_cons pe_str (pa_cons pe_str pa_nil))) pa_nil))) pa_nil))))))))))))
      (pss_cons (ps_for PassesOwn.never rfl (pi_list (pe_slice sl_list (pv 1) po_none (po_some pe_int))) (pg_name (i := 4) scBad.nd rfl (Or.inl rfl))
        (pss_one (ps_set (i := 3) scBad.nd rfl (Or.inl rfl) (pe_op op_cat (pv 3) (pe_lst (pa_cons (pv 4) (pa_cons (pe_tup (pa_cons (pv 4) (pa_cons (pv 4) pa_nil))) (pa_cons (pe_tup (pa_cons (pv 4) pa_nil)) (pa_cons (pe_lst (pa_cons (pv 4) (pa_cons (pv 4) pa_nil))) (pa_cons (pe_tup (pa_cons (pv 4) (pa_cons (pe_tup (pa_cons pe_str (pa_cons pe_str pa_nil))) pa_nil))) (pa_cons (pe_tup (pa_cons (pv 4) (pa_cons pe_non pa_nil))) pa_nil))))))))))) 
      (pss_cons (ps_for PassesOwn.never rfl (pi_zip (by rfl) mz (pa_cons (pv 1) (pa_cons (pe_slice sl_list (pv 1) (po_some pe_int) po_none) pa_nil))) (pg_tup rfl (pgs_cons (pg_name (i := 5) scBad.nd rfl (Or.inl rfl)) (pgs_cons (pg_name (i := 6) scBad.nd rfl (Or.inl rfl)) pgs_nil)))
        (pss_one (ps_if (pt_cmpR (op_notInD2 K rfl hu65) (pe_tup (pa_cons (pv 5) (pa_cons (pv 6) pa_nil))) (pv 2) rfl) (pss_one (ps_expr (pe_bm PySem.F.plainAttrs_list PySem.F.slot_list_append PySem.F.type_list_append mt_append (pv 3) (pa_cons (pe_tup (pa_cons (pv 5) (pa_cons (pv 6) pa_nil))) pa_nil)))) pss_nil)))
      (pss_cons (ps_for PassesOwn.never rfl (pi_list (pe_slice sl_list (pv 2) po_none (po_some pe_int))) (pg_tup rfl (pgs_cons (pg_name (i := 5) scBad.nd rfl (Or.inl rfl)) (pgs_cons (pg_name (i := 6) scBad.nd rfl (Or.inl rfl)) pgs_nil)))
        (pss_one (ps_set (i := 3) scBad.nd rfl (Or.inl rfl) (pe_op op_cat (pv 3) (pe_lst (pa_cons (pe_tup (pa_cons (pv 6) (pa_cons (pv 5) pa_nil))) (pa_cons (pe_lst (pa_cons (pv 5) (pa_cons (pv 6) pa_nil))) (pa_cons (pe_tup (pa_cons (pv 5) (pa_cons (pv 6) (pa_cons (pv 5) pa_nil)))) (pa_cons (pe_tup (pa_cons (pe_callTy (call_list2 K rfl) (by rfl) ml (by decide +kernel) (pa_cons (pv 5) pa_nil)) (pa_cons (pv 6) pa_nil))) (pa_cons (pe_tup (pa_cons (pe_rev2 (pv 5)) (pa_cons (pv 6) pa_nil))) pa_nil)))))))))) 
      (pss_one (ps_ret (pe_call GO hr rfl mO kO bO .nil pass0 (pa_cons (pv 0) (pa_cons (pv 3) pa_nil)))))))), ?_⟩
    obtain ⟨es, hes⟩ : ∃ es, es = (sortE ks).map (·.2) := ⟨_, rfl⟩
    rw [← hes] at gok R0 k
    have inK : ∀ q ∈ ks, q.2 ∈ es := fun q hq => by rw [hes]; exact (perm_sort ks).mem_iff.mp (List.mem_map.mpr ⟨q, hq, rfl⟩)
    have eok : ∀ q ∈ ks, EdOk ns q.2 := fun q hq => gok.eo _ (inK q hq)
    have kl : ks.length ≤ 18 := by have := gok.el; rw [hes, List.length_map, (sortE_perm ks).length_eq] at this; exact this
    obtain ⟨c1, c2, c3, c4, c5, c6, c7, c8, c9, c10⟩ := bad_consts (es := es) b8
    have hx : ∀ x ∈ [V.non, .int 5, .str "ab"], BadIn p ns es H x := fun x m => by
      simp only [List.mem_cons, List.not_mem_nil, or_false] at m
      rcases m with rfl | rfl | rfl
      · exact ⟨_, .non, c1⟩
      · exact ⟨_, .int 5, c2⟩
      · exact ⟨_, .str "ab", c3⟩
    refine ⟨by show 0 ≤ sizeLine; decide, fun q1 hq1 => ?_⟩
    have sq1 : Same H (L2.upd H q1 (.tup [])) := Same.new hq1
    have oq1 : Od (hide p (L2.upd H q1 (.tup []))) (.ref q1) (.tuple []) := od_newT S0 hq1 (.nil)
    have eq1 : (L2.upd H q1 (.tup [])) q1 = some (.tup []) := upd_same
    generalize L2.upd H q1 (.tup []) = Hq1 at sq1 oq1 eq1 ⊢
    have Sq1 := S0.but sq1
    have hx := fun x m => (hx x m).but (But.of_same sq1)
    have hx := bad_grow hx (Same.refl _) ⟨_, oq1, c4⟩
    refine ⟨by show 0 ≤ sizeLine; decide, fun q2 hq2 => ?_⟩
    have sq2 : Same Hq1 (L2.upd Hq1 q2 (.lst [])) := Same.new hq2
    have oq2 : Od (hide p (L2.upd Hq1 q2 (.lst []))) (.ref q2) (.list []) := od_newL Sq1 hq2 (.nil)
    have eq2 : (L2.upd Hq1 q2 (.lst [])) q2 = some (.lst []) := upd_same
    generalize L2.upd Hq1 q2 (.lst []) = Hq2 at sq2 oq2 eq2 ⊢
    have Sq2 := Sq1.but sq2
    have hx := fun x m => (hx x m).but (But.of_same sq2)
    have hx := bad_grow hx (Same.refl _) ⟨_, oq2, c5⟩
    refine fun q3 hq3 => ?_
    have sq3 : Same Hq2 (L2.upd Hq2 q3 (.dK [])) := Same.new hq3
    have oq3 : Od (hide p (L2.upd Hq2 q3 (.dK []))) (.ref q3) (.dict []) := od_newD Sq2 hq3
    have eq3 : (L2.upd Hq2 q3 (.dK [])) q3 = some (.dK []) := upd_same
    generalize L2.upd Hq2 q3 (.dK []) = Hq3 at sq3 oq3 eq3 ⊢
    have Sq3 := Sq2.but sq3
    have hx := fun x m => (hx x m).but (But.of_same sq3)
    have hx := bad_grow hx (Same.refl _) ⟨_, oq3, c6⟩
    refine ⟨by show 2 ≤ sizeLine; decide, fun q4 hq4 => ?_⟩
    have sq4 : Same Hq3 (L2.upd Hq3 q4 (.tup [.str "a", .str "b"])) := Same.new hq4
    have oq4 : Od (hide p (L2.upd Hq3 q4 (.tup [.str "a", .str "b"]))) (.ref q4) (.tuple [.str "a", .str "b"]) := od_newT Sq3 hq4 (.cons (.str _) (.cons (.str _) .nil))
    have eq4 : (L2.upd Hq3 q4 (.tup [.str "a", .str "b"])) q4 = some (.tup [.str "a", .str "b"]) := upd_same
    generalize L2.upd Hq3 q4 (.tup [.str "a", .str "b"]) = Hq4 at sq4 oq4 eq4 ⊢
    have Sq4 := Sq3.but sq4
    have hx := fun x m => (hx x m).but (But.of_same sq4)
    refine ⟨by show 1 ≤ sizeLine; decide, fun q5 hq5 => ?_⟩
    have sq5 : Same Hq4 (L2.upd Hq4 q5 (.tup [.ref q4])) := Same.new hq5
    have oq5 : Od (hide p (L2.upd Hq4 q5 (.tup [.ref q4]))) (.ref q5) (.tuple [.tuple [.str "a", .str "b"]]) := od_newT Sq4 hq5 (.cons oq4 .nil)
    have eq5 : (L2.upd Hq4 q5 (.tup [.ref q4])) q5 = some (.tup [.ref q4]) := upd_same
    generalize L2.upd Hq4 q5 (.tup [.ref q4]) = Hq5 at sq5 oq5 eq5 ⊢
    have Sq5 := Sq4.but sq5
    have hx := fun x m => (hx x m).but (But.of_same sq5)
    have hx := bad_grow hx (Same.refl _) ⟨_, oq5, c7⟩
    refine ⟨by show 2 ≤ sizeLine; decide, fun q6 hq6 => ?_⟩
    have sq6 : Same Hq5 (L2.upd Hq5 q6 (.tup [.str "q", .str "r"])) := Same.new hq6
    have oq6 : Od (hide p (L2.upd Hq5 q6 (.tup [.str "q", .str "r"]))) (.ref q6) (.tuple [.str "q", .str "r"]) := od_newT Sq5 hq6 (.cons (.str _) (.cons (.str _) .nil))
    have eq6 : (L2.upd Hq5 q6 (.tup [.str "q", .str "r"])) q6 = some (.tup [.str "q", .str "r"]) := upd_same
    generalize L2.upd Hq5 q6 (.tup [.str "q", .str "r"]) = Hq6 at sq6 oq6 eq6 ⊢
    have Sq6 := Sq5.but sq6
    have hx := fun x m => (hx x m).but (But.of_same sq6)
    refine ⟨by show 2 ≤ sizeLine; decide, fun q7 hq7 => ?_⟩
    have sq7 : Same Hq6 (L2.upd Hq6 q7 (.tup [.str "s", .str "t"])) := Same.new hq7
    have oq7 : Od (hide p (L2.upd Hq6 q7 (.tup [.str "s", .str "t"]))) (.ref q7) (.tuple [.str "s", .str "t"]) := od_newT Sq6 hq7 (.cons (.str _) (.cons (.str _) .nil))
    have eq7 : (L2.upd Hq6 q7 (.tup [.str "s", .str "t"])) q7 = some (.tup [.str "s", .str "t"]) := upd_same
    generalize L2.upd Hq6 q7 (.tup [.str "s", .str "t"]) = Hq7 at sq7 oq7 eq7 ⊢
    have Sq7 := Sq6.but sq7
    have oq6 := oq6.same (But.hide (But.of_same sq7))
    have hx := fun x m => (hx x m).but (But.of_same sq7)
    refine ⟨by show 2 ≤ sizeLine; decide, fun q8 hq8 => ?_⟩
    have sq8 : Same Hq7 (L2.upd Hq7 q8 (.tup [.ref q6, .ref q7])) := Same.new hq8
    have oq8 : Od (hide p (L2.upd Hq7 q8 (.tup [.ref q6, .ref q7]))) (.ref q8) (.tuple [.tuple [.str "q", .str "r"], .tuple [.str "s", .str "t"]]) := od_newT Sq7 hq8 (.cons oq6 (.cons oq7 .nil))
    have eq8 : (L2.upd Hq7 q8 (.tup [.ref q6, .ref q7])) q8 = some (.tup [.ref q6, .ref q7]) := upd_same
    generalize L2.upd Hq7 q8 (.tup [.ref q6, .ref q7]) = Hq8 at sq8 oq8 eq8 ⊢
    have Sq8 := Sq7.but sq8
    have hx := fun x m => (hx x m).but (But.of_same sq8)
    have hx := bad_grow hx (Same.refl _) ⟨_, oq8, c8⟩
    refine fun q9 hq9 => ?_
    have sq9 : Same Hq8 (L2.upd Hq8 q9 (.dK [])) := Same.new hq9
    have oq9 : Od (hide p (L2.upd Hq8 q9 (.dK []))) (.ref q9) (.dict []) := od_newD Sq8 hq9
    have eq9 : (L2.upd Hq8 q9 (.dK [])) q9 = some (.dK []) := upd_same
    generalize L2.upd Hq8 q9 (.dK []) = Hq9 at sq9 oq9 eq9 ⊢
    have Sq9 := Sq8.but sq9
    have hx := fun x m => (hx x m).but (But.of_same sq9)
    refine ⟨by show 0 ≤ sizeLine; decide, fun q10 hq10 => ?_⟩
    have sq10 : Same Hq9 (L2.upd Hq9 q10 (.lst [])) := Same.new hq10
    have oq10 : Od (hide p (L2.upd Hq9 q10 (.lst []))) (.ref q10) (.list []) := od_newL Sq9 hq10 (.nil)
    have eq10 : (L2.upd Hq9 q10 (.lst [])) q10 = some (.lst []) := upd_same
    generalize L2.upd Hq9 q10 (.lst []) = Hq10 at sq10 oq10 eq10 ⊢
    have Sq10 := Sq9.but sq10
    have oq9 := oq9.same (But.hide (But.of_same sq10))
    have hx := fun x m => (hx x m).but (But.of_same sq10)
    refine ⟨by show 2 ≤ sizeLine; decide, fun q11 hq11 => ?_⟩
    have sq11 : Same Hq10 (L2.upd Hq10 q11 (.tup [.ref q9, .ref q10])) := Same.new hq11
    have oq11 : Od (hide p (L2.upd Hq10 q11 (.tup [.ref q9, .ref q10]))) (.ref q11) (.tuple [.dict [], .list []]) := od_newT Sq10 hq11 (.cons oq9 (.cons oq10 .nil))
    have eq11 : (L2.upd Hq10 q11 (.tup [.ref q9, .ref q10])) q11 = some (.tup [.ref q9, .ref q10]) := upd_same
    generalize L2.upd Hq10 q11 (.tup [.ref q9, .ref q10]) = Hq11 at sq11 oq11 eq11 ⊢
    have Sq11 := Sq10.but sq11
    have hx := fun x m => (hx x m).but (But.of_same sq11)
    have hx := bad_grow hx (Same.refl _) ⟨_, oq11, c9⟩
    refine ⟨by show 0 ≤ sizeLine; decide, fun q12 hq12 => ?_⟩
    have sq12 : Same Hq11 (L2.upd Hq11 q12 (.lst [])) := Same.new hq12
    have oq12 : Od (hide p (L2.upd Hq11 q12 (.lst []))) (.ref q12) (.list []) := od_newL Sq11 hq12 (.nil)
    have eq12 : (L2.upd Hq11 q12 (.lst [])) q12 = some (.lst []) := upd_same
    generalize L2.upd Hq11 q12 (.lst []) = Hq12 at sq12 oq12 eq12 ⊢
    have Sq12 := Sq11.but sq12
    have hx := fun x m => (hx x m).but (But.of_same sq12)
    refine ⟨by show 2 ≤ sizeLine; decide, fun q13 hq13 => ?_⟩
    have sq13 : Same Hq12 (L2.upd Hq12 q13 (.tup [.str "a", .str "b"])) := Same.new hq13
    have oq13 : Od (hide p (L2.upd Hq12 q13 (.tup [.str "a", .str "b"]))) (.ref q13) (.tuple [.str "a", .str "b"]) := od_newT Sq12 hq13 (.cons (.str _) (.cons (.str _) .nil))
    have eq13 : (L2.upd Hq12 q13 (.tup [.str "a", .str "b"])) q13 = some (.tup [.str "a", .str "b"]) := upd_same
    generalize L2.upd Hq12 q13 (.tup [.str "a", .str "b"]) = Hq13 at sq13 oq13 eq13 ⊢
    have Sq13 := Sq12.but sq13
    have oq12 := oq12.same (But.hide (But.of_same sq13))
    have hx := fun x m => (hx x m).but (But.of_same sq13)
    refine ⟨by show 2 ≤ sizeLine; decide, fun q14 hq14 => ?_⟩
    have sq14 : Same Hq13 (L2.upd Hq13 q14 (.tup [.ref q12, .ref q13])) := Same.new hq14
    have oq14 : Od (hide p (L2.upd Hq13 q14 (.tup [.ref q12, .ref q13]))) (.ref q14) (.tuple [.list [], .tuple [.str "a", .str "b"]]) := od_newT Sq13 hq14 (.cons oq12 (.cons oq13 .nil))
    have eq14 : (L2.upd Hq13 q14 (.tup [.ref q12, .ref q13])) q14 = some (.tup [.ref q12, .ref q13]) := upd_same
    generalize L2.upd Hq13 q14 (.tup [.ref q12, .ref q13]) = Hq14 at sq14 oq14 eq14 ⊢
    have Sq14 := Sq13.but sq14
    have hx := fun x m => (hx x m).but (But.of_same sq14)
    have hx := bad_grow hx (Same.refl _) ⟨_, oq14, c10⟩
    have s0 : Same H Hq14 := (sq1.trans (sq2.trans (sq3.trans (sq4.trans (sq5.trans (sq6.trans (sq7.trans (sq8.trans (sq9.trans (sq10.trans (sq11.trans (sq12.trans (sq13.trans sq14)))))))))))))
    obtain ⟨OS0, hOS⟩ : ∃ OS : List V, OS = [.non, .int 5, .str "ab", .ref q1, .ref q2, .ref q3, .ref q5, .ref q8, .ref q11, .ref q14] := ⟨_, rfl⟩
    have hx : ∀ x ∈ OS0, BadIn p ns es Hq14 x := by rw [hOS]; exact hx
    have l0 : OS0.length = 10 := by rw [hOS]; rfl
    refine ⟨by show 10 ≤ sizeLine; decide, fun o0 ho0 => ?_⟩
    have so0 : Same Hq14 (L2.upd Hq14 o0 (.lst [.non, .int 5, .str "ab", .ref q1, .ref q2, .ref q3, .ref q5, .ref q8, .ref q11, .ref q14])) := Same.new ho0
    have eo0 : (L2.upd Hq14 o0 (.lst [.non, .int 5, .str "ab", .ref q1, .ref q2, .ref q3, .ref q5, .ref q8, .ref q11, .ref q14])) o0 = some (.lst [.non, .int 5, .str "ab", .ref q1, .ref q2, .ref q3, .ref q5, .ref q8, .ref q11, .ref q14]) := upd_same
    have hx := badO_new (ob := .lst [.non, .int 5, .str "ab", .ref q1, .ref q2, .ref q3, .ref q5, .ref q8, .ref q11, .ref q14]) hx ho0
    generalize L2.upd Hq14 o0 (.lst [.non, .int 5, .str "ab", .ref q1, .ref q2, .ref q3, .ref q5, .ref q8, .ref q11, .ref q14]) = H0 at so0 eo0 hx ⊢
    rw [← hOS] at eo0
    have s00 := s0.trans so0
    have fo0 : H o0 = none := s0.free ho0
    clear hOS c1 c2 c3 c4 c5 c6 c7 c8 c9 c10
    refine ⟨_, rfl, _, rfl, e, _, rfl, SqL.of (s00 _ _ he), fun qa hqa => ?_⟩
    rw [cut_take _ _ (by decide)]
    have sA : Same H0 (L2.upd H0 qa (.lst ((ks.map fun q => V.ref q.1).take (1 : Int).toNat))) := Same.new hqa
    have eA : (L2.upd H0 qa (.lst ((ks.map fun q => V.ref q.1).take (1 : Int).toNat))) qa = some (.lst ((ks.map fun q => V.ref q.1).take (1 : Int).toNat)) := upd_same
    generalize L2.upd H0 qa (.lst ((ks.map fun q => V.ref q.1).take (1 : Int).toNat)) = HA at sA eA ⊢
    have s0A := s00.trans sA
    refine ⟨qa, rfl, ⟨_, SqL.of eA⟩, for_list (K := K) (a := qa) (xs := (ks.map fun q => V.ref q.1).take (1 : Int).toNat) (fun i σ H' => (∃ v4 o OS, σ = [some (.ref p), some (.ref e), some (.ref kn), some (.ref o), v4, none, none] ∧ H' o = some (.lst OS) ∧ H o = none ∧ (∀ x ∈ OS, BadIn p ns es (hide o H') x) ∧ 0 < OS.length ∧ OS.length ≤ 10 + 6 * i) ∧ Same HA H')
      ⟨⟨_, o0, OS0, rfl, sA _ _ eo0, fo0, badO_same hx sA, by omega, by omega⟩, Same.refl _⟩ (fun i σ H' _ ⟨_, s⟩ => SqL.of (s _ _ eA)) ?_ ?_⟩
    · rintro i x σ H1 hi ⟨⟨v4, o, OS, rfl, eo, fo, hx, lo, hi6⟩, s1⟩
      have s01 := s0A.trans s1
      obtain ⟨j, hj⟩ := List.getElem?_of_mem (List.mem_of_mem_take (List.mem_of_getElem? hi))
      rw [List.getElem?_map] at hj
      obtain ⟨q0, hq0, rfl⟩ : ∃ q, ks[j]? = some q ∧ V.ref q.1 = x := by
        cases c : ks[j]? with
        | none => rw [c] at hj; cases hj
        | some q => rw [c] at hj; exact ⟨q, rfl, Option.some.inj hj⟩
      have mq := List.mem_of_getElem? hq0
      have S1 := S0.but s01
      obtain ⟨d1, d2, d3, d4, d5, d6⟩ := bad_edges (es := es) b8 (eok q0 mq)
      have oe : Od (hide p H1) (.ref q0.1) (encE q0.2) := (od_edge (H := hide p H) (hide_at (by obtain ⟨x1, x2, x3, w⟩ := id S0; exact ne_of (hed q0 mq) w (fun z => by cases z)) (hed q0 mq))).same (But.hide (But.of_same s01))
      have hb : ∀ x ∈ [V.ref q0.1], BadIn p ns es H1 x := fun x m => by
        simp only [List.mem_cons, List.not_mem_nil, or_false] at m
        subst m; exact ⟨_, oe, d1⟩
      refine ⟨_, rfl, _, rfl, _, rfl, _, rfl, ?_⟩
      refine ⟨by show 2 ≤ sizeLine; decide, fun r1 hr1 => ?_⟩
      have sr1 : Same H1 (L2.upd H1 r1 (.tup [.ref q0.1, .ref q0.1])) := Same.new hr1
      have or1 : Od (hide p (L2.upd H1 r1 (.tup [.ref q0.1, .ref q0.1]))) (.ref r1) (.tuple [encE q0.2, encE q0.2]) := od_newT S1 hr1 (.cons oe (.cons oe .nil))
      have er1 : (L2.upd H1 r1 (.tup [.ref q0.1, .ref q0.1])) r1 = some (.tup [.ref q0.1, .ref q0.1]) := upd_same
      generalize L2.upd H1 r1 (.tup [.ref q0.1, .ref q0.1]) = Hr1 at sr1 or1 er1 ⊢
      have Sr1 := S1.but sr1
      have oe := oe.same (But.hide (But.of_same sr1))
      have hb := fun x m => (hb x m).but (But.of_same sr1)
      have hb := bad_grow hb (Same.refl _) ⟨_, or1, d2⟩
      refine ⟨_, rfl, by show 1 ≤ sizeLine; decide, fun r2 hr2 => ?_⟩
      have sr2 : Same Hr1 (L2.upd Hr1 r2 (.tup [.ref q0.1])) := Same.new hr2
      have or2 : Od (hide p (L2.upd Hr1 r2 (.tup [.ref q0.1]))) (.ref r2) (.tuple [encE q0.2]) := od_newT Sr1 hr2 (.cons oe .nil)
      have er2 : (L2.upd Hr1 r2 (.tup [.ref q0.1])) r2 = some (.tup [.ref q0.1]) := upd_same
      generalize L2.upd Hr1 r2 (.tup [.ref q0.1]) = Hr2 at sr2 or2 er2 ⊢
      have Sr2 := Sr1.but sr2
      have oe := oe.same (But.hide (But.of_same sr2))
      have hb := fun x m => (hb x m).but (But.of_same sr2)
      have hb := bad_grow hb (Same.refl _) ⟨_, or2, d3⟩
      refine ⟨_, rfl, _, rfl, by show 2 ≤ sizeLine; decide, fun r3 hr3 => ?_⟩
      have sr3 : Same Hr2 (L2.upd Hr2 r3 (.lst [.ref q0.1, .ref q0.1])) := Same.new hr3
      have or3 : Od (hide p (L2.upd Hr2 r3 (.lst [.ref q0.1, .ref q0.1]))) (.ref r3) (.list [encE q0.2, encE q0.2]) := od_newL Sr2 hr3 (.cons oe (.cons oe .nil))
      have er3 : (L2.upd Hr2 r3 (.lst [.ref q0.1, .ref q0.1])) r3 = some (.lst [.ref q0.1, .ref q0.1]) := upd_same
      generalize L2.upd Hr2 r3 (.lst [.ref q0.1, .ref q0.1]) = Hr3 at sr3 or3 er3 ⊢
      have Sr3 := Sr2.but sr3
      have oe := oe.same (But.hide (But.of_same sr3))
      have hb := fun x m => (hb x m).but (But.of_same sr3)
      have hb := bad_grow hb (Same.refl _) ⟨_, or3, d4⟩
      refine ⟨_, rfl, by show 2 ≤ sizeLine; decide, fun r4 hr4 => ?_⟩
      have sr4 : Same Hr3 (L2.upd Hr3 r4 (.tup [.str "s", .str "t"])) := Same.new hr4
      have or4 : Od (hide p (L2.upd Hr3 r4 (.tup [.str "s", .str "t"]))) (.ref r4) (.tuple [.str "s", .str "t"]) := od_newT Sr3 hr4 (.cons (.str _) (.cons (.str _) .nil))
      have er4 : (L2.upd Hr3 r4 (.tup [.str "s", .str "t"])) r4 = some (.tup [.str "s", .str "t"]) := upd_same
      generalize L2.upd Hr3 r4 (.tup [.str "s", .str "t"]) = Hr4 at sr4 or4 er4 ⊢
      have Sr4 := Sr3.but sr4
      have oe := oe.same (But.hide (But.of_same sr4))
      have hb := fun x m => (hb x m).but (But.of_same sr4)
      refine ⟨by show 2 ≤ sizeLine; decide, fun r5 hr5 => ?_⟩
      have sr5 : Same Hr4 (L2.upd Hr4 r5 (.tup [.ref q0.1, .ref r4])) := Same.new hr5
      have or5 : Od (hide p (L2.upd Hr4 r5 (.tup [.ref q0.1, .ref r4]))) (.ref r5) (.tuple [encE q0.2, .tuple [.str "s", .str "t"]]) := od_newT Sr4 hr5 (.cons oe (.cons or4 .nil))
      have er5 : (L2.upd Hr4 r5 (.tup [.ref q0.1, .ref r4])) r5 = some (.tup [.ref q0.1, .ref r4]) := upd_same
      generalize L2.upd Hr4 r5 (.tup [.ref q0.1, .ref r4]) = Hr5 at sr5 or5 er5 ⊢
      have Sr5 := Sr4.but sr5
      have oe := oe.same (But.hide (But.of_same sr5))
      have hb := fun x m => (hb x m).but (But.of_same sr5)
      have hb := bad_grow hb (Same.refl _) ⟨_, or5, d5⟩
      refine ⟨_, rfl, by show 2 ≤ sizeLine; decide, fun r6 hr6 => ?_⟩
      have sr6 : Same Hr5 (L2.upd Hr5 r6 (.tup [.ref q0.1, .non])) := Same.new hr6
      have or6 : Od (hide p (L2.upd Hr5 r6 (.tup [.ref q0.1, .non]))) (.ref r6) (.tuple [encE q0.2, .none]) := od_newT Sr5 hr6 (.cons oe (.cons .non .nil))
      have er6 : (L2.upd Hr5 r6 (.tup [.ref q0.1, .non])) r6 = some (.tup [.ref q0.1, .non]) := upd_same
      generalize L2.upd Hr5 r6 (.tup [.ref q0.1, .non]) = Hr6 at sr6 or6 er6 ⊢
      have Sr6 := Sr5.but sr6
      have oe := oe.same (But.hide (But.of_same sr6))
      have hb := fun x m => (hb x m).but (But.of_same sr6)
      have hb := bad_grow hb (Same.refl _) ⟨_, or6, d6⟩
      have s12 : Same H1 Hr6 := (sr1.trans (sr2.trans (sr3.trans (sr4.trans (sr5.trans sr6)))))
      obtain ⟨M0, hOS⟩ : ∃ OS : List V, OS = [.ref q0.1, .ref r1, .ref r2, .ref r3, .ref r5, .ref r6] := ⟨_, rfl⟩
      have hb : ∀ x ∈ M0, BadIn p ns es Hr6 x := by rw [hOS]; exact hb
      have lM : M0.length = 6 := by rw [hOS]; rfl
      refine ⟨by show 6 ≤ sizeLine; decide, fun rl hrl => ?_⟩
      have s23 : Same Hr6 (L2.upd Hr6 rl (.lst [.ref q0.1, .ref r1, .ref r2, .ref r3, .ref r5, .ref r6])) := Same.new hrl
      have erl : (L2.upd Hr6 rl (.lst [.ref q0.1, .ref r1, .ref r2, .ref r3, .ref r5, .ref r6])) rl = some (.lst [.ref q0.1, .ref r1, .ref r2, .ref r3, .ref r5, .ref r6]) := upd_same
      generalize L2.upd Hr6 rl (.lst [.ref q0.1, .ref r1, .ref r2, .ref r3, .ref r5, .ref r6]) = H3 at s23 erl ⊢
      rw [← hOS] at erl
      have s13 := s12.trans s23
      refine ⟨o, rl, OS, M0, rfl, rfl, s13 _ _ eo, erl, by rw [lM, sizeLine_eq]; have := (List.getElem?_eq_some_iff.mp hi).1; simp only [List.length_take, List.length_map] at this; omega, fun o2 ho2 => ?_⟩
      have s34 : Same H3 (L2.upd H3 o2 (.lst (OS ++ M0))) := Same.new ho2
      have s14 := s13.trans s34
      refine ⟨⟨_, o2, OS ++ M0, rfl, upd_same, (s01.trans s13).free ho2, badO_new (bad_app (badO_out hx) (But.of_same s13) (fun x m => (hb x m).but (But.of_same s23))) ho2, by rw [List.length_append]; omega, by rw [List.length_append, lM]; omega⟩, s1.trans s14⟩
    rintro σ H1 ⟨⟨v4, o, OS, rfl, eo, fo, hx, lo, hi6⟩, s1⟩
    have lo16 : OS.length ≤ 16 := by rw [List.length_take] at hi6; have : min (1 : Int).toNat (ks.map fun q => V.ref q.1).length ≤ 1 := Nat.min_le_left _ _; omega
    have s01 := s0A.trans s1
    clear hi6 eA sA s0A s1 so0 s00 s0 eo0
    have op : o ≠ p := S0.ne fo
    have oe : e ≠ o := ne_of_none he fo
    have okn : kn ≠ o := by obtain ⟨qs, w, _⟩ := id R0; exact ne_of_none w fo
    refine ⟨_, rfl, _, rfl, _, rfl, e, _, rfl, SqL.of (s01 _ _ he), fun qb hqb => ?_⟩
    rw [show cutV (ks.map fun q => V.ref q.1) (some (1 : Int)) none = (ks.map fun q => V.ref q.1).drop 1 from cut_dropN _ 1]
    have sB : Same H1 (L2.upd H1 qb (.lst ((ks.map fun q => V.ref q.1).drop 1))) := Same.new hqb
    have eB : (L2.upd H1 qb (.lst ((ks.map fun q => V.ref q.1).drop 1))) qb = some (.lst ((ks.map fun q => V.ref q.1).drop 1)) := upd_same
    have qbo : qb ≠ o := (ne_of_none eo hqb).symm
    generalize L2.upd H1 qb (.lst ((ks.map fun q => V.ref q.1).drop 1)) = HB at sB eB ⊢
    have s0B := s01.trans sB
    have hlen : (ks.map fun q => V.ref q.1).length = ks.length := List.length_map _
    refine ⟨e, qb, _, _, rfl, SqL.of (s0B _ _ he), SqL.of eB, for_it (walk_zip (K := K) (a := e) (b := qb) (xs := ks.map fun q => V.ref q.1) (ys := (ks.map fun q => V.ref q.1).drop 1) rfl) (fun i σ H' => (∃ v4 v5 v6 OS, σ = [some (.ref p), some (.ref e), some (.ref kn), some (.ref o), v4, v5, v6] ∧ H' o = some (.lst OS) ∧ (∀ x ∈ OS, BadIn p ns es (hide o H') x) ∧ 0 < OS.length ∧ OS.length ≤ 16 + i) ∧ But o HB H')
      ⟨⟨_, _, _, OS, rfl, sB _ _ eo, badO_same hx sB, lo, by omega⟩, But.refl⟩ (fun i σ H' _ ⟨_, s⟩ => ⟨SqL.of (s _ _ oe (s0B _ _ he)), SqL.of (s _ _ qbo eB)⟩) ?_ ?_⟩
    · rintro i y σ Ha Hb hi ⟨⟨v4, v5, v6, OS, rfl, eo, hx, lo, hi6⟩, BA⟩ ⟨tt, x1, x2, rfl, ht, rfl, e1, e3⟩
      have i18 : i < 18 := by rw [hlen] at hi; omega
      have e1 : (ks.map fun q => V.ref q.1)[i]? = some x1 := e1
      have e3 : ((ks.map fun q => V.ref q.1).drop 1)[i]? = some x2 := e3
      rw [List.getElem?_map] at e1
      rw [List.getElem?_drop, List.getElem?_map] at e3
      obtain ⟨qx, hqx, rfl⟩ : ∃ q, ks[i]? = some q ∧ V.ref q.1 = x1 := by
        cases c : ks[i]? with
        | none => rw [c] at e1; cases e1
        | some q => rw [c] at e1; exact ⟨q, rfl, Option.some.inj e1⟩
      obtain ⟨qy, hqy, rfl⟩ : ∃ q, ks[1 + i]? = some q ∧ V.ref q.1 = x2 := by
        cases c : ks[1 + i]? with
        | none => rw [c] at e3; cases e3
        | some q => rw [c] at e3; exact ⟨q, rfl, Option.some.inj e3⟩
      have mx := List.mem_of_getElem? hqx
      have my := List.mem_of_getElem? hqy
      have s0a : Same H Ha := Same.but s0B fo BA
      have sT : Same Ha (L2.upd Ha tt (.tup [.ref qx.1, .ref qy.1])) := Same.new ht
      have eT : (L2.upd Ha tt (.tup [.ref qx.1, .ref qy.1])) tt = some (.tup [.ref qx.1, .ref qy.1]) := upd_same
      generalize L2.upd Ha tt (.tup [.ref qx.1, .ref qy.1]) = Hb at sT eT ⊢
      refine ⟨tt, _, rfl, SqT.of eT, rfl, _, _, rfl, _, _, rfl, rfl, ?_⟩
      refine ⟨_, rfl, _, rfl, by show 2 ≤ sizeLine; decide, fun t1 ht1 => ?_⟩
      have s1 : Same Hb (L2.upd Hb t1 (.tup [.ref qx.1, .ref qy.1])) := Same.new ht1
      have e1 : (L2.upd Hb t1 (.tup [.ref qx.1, .ref qy.1])) t1 = some (.tup [.ref qx.1, .ref qy.1]) := upd_same
      generalize L2.upd Hb t1 (.tup [.ref qx.1, .ref qy.1]) = H2 at s1 e1 ⊢
      have sa2 := sT.trans s1
      have s02 := s0a.trans sa2
      have okx := gok.okE (inK qx mx)
      have oky := gok.okE (inK qy my)
      have anyq := any_pr gok.asc gok.eo (pD (qx.2, qy.2))
      refine ⟨_, rfl, pD (qx.2, qy.2), (pairsOf es).map pD, .tup (SqT.of e1) (.cons (dp_edge (s02 _ _ (hed qx mx))) (.cons (dp_edge (s02 _ _ (hed qy my))) .nil)), (R0.kept s02).dp, pD_shaped (p := (qx.2, qy.2)) ⟨okx, oky⟩, pDs_shaped (fun q hq => okP_in (fun f hf => gok.okE hf) hq), _, rfl, ?_⟩
      rw [anyq]
      cases c : prB ns es (pD (qx.2, qy.2)) with
      | true => exact iteF ⟨⟨_, _, _, OS, rfl, sa2 _ _ eo, badO_same hx sa2, lo, by omega⟩, BA.trans (But.of_same sa2)⟩
      | false =>
        refine iteT ⟨_, rfl, .inl ⟨rfl, _, SqL.of (sa2 _ _ eo)⟩, _, rfl, _, rfl, by show 2 ≤ sizeLine; decide, fun t2 ht2 => ?_⟩
        have edx : EdAt (hide o H) qx := hide_at (ne_of_none (hed qx mx) fo) (hed qx mx)
        have edy : EdAt (hide o H) qy := hide_at (ne_of_none (hed qy my) fo) (hed qy my)
        have nex : qx.1 ≠ p := by obtain ⟨x1, x2, x3, w⟩ := id S0; exact ne_of (hed qx mx) w (fun z => by cases z)
        have ney : qy.1 ≠ p := by obtain ⟨x1, x2, x3, w⟩ := id S0; exact ne_of (hed qy my) w (fun z => by cases z)
        have t2o : t2 ≠ o := (ne_of_none (sa2 _ _ eo) ht2).symm
        have t2p : t2 ≠ p := (S0.but s02).ne ht2
        have s3 : Same H2 (L2.upd H2 t2 (.tup [.ref qx.1, .ref qy.1])) := Same.new ht2
        have e3 : (L2.upd H2 t2 (.tup [.ref qx.1, .ref qy.1])) t2 = some (.tup [.ref qx.1, .ref qy.1]) := upd_same
        generalize L2.upd H2 t2 (.tup [.ref qx.1, .ref qy.1]) = H3 at s3 e3 ⊢
        have sa3 := sa2.trans s3
        have h03 : Same (hide p (hide o H)) (hide p (hide o H3)) := But.hide (But.of_same (But.hide (But.of_same (s02.trans s3))))
        have ot : Od (hide p (hide o H3)) (.ref t2) (.tuple [encE qx.2, encE qy.2]) := .tup (hide_at t2p (hide_at t2o e3)) (.cons ((od_edge (H := hide p (hide o H)) (hide_at nex edx)).same h03) (.cons ((od_edge (H := hide p (hide o H)) (hide_at ney edy)).same h03) .nil))
        refine ⟨o, OS, _, rfl, rfl, sa3 _ _ eo, by rw [sizeLine_eq]; omega, ?_⟩
        have hy := bad_grow (badO_same hx sa3) (Same.refl _) ⟨_, ot, bad_new b8 (eok qx mx) (eok qy my) c⟩
        exact ⟨⟨_, _, _, OS ++ [.ref t2], rfl, upd_same, by rw [badO_upd]; exact hy, by rw [List.length_append]; omega, by rw [List.length_append]; show _ + 1 ≤ _; omega⟩, (BA.trans (But.of_same sa3)).trans But.upd⟩
    rintro σ H1 ⟨⟨v4, v5, v6, OS, rfl, eo, hx, lo, hi6⟩, BA⟩
    have lo40 : OS.length ≤ 40 := by rw [hlen] at hi6; omega
    have s01 : Same H H1 := Same.but s0B fo BA
    clear hi6 BA s0B eB sB hlen
    obtain ⟨kq, k1, k2, k3⟩ := id R0
    refine ⟨_, rfl, _, rfl, kn, _, rfl, SqL.of (s01 _ _ k1), fun qc hqc => ?_⟩
    rw [cut_take _ _ (by decide)]
    have sC : Same H1 (L2.upd H1 qc (.lst ((kq.map fun q => V.ref q.1).take (2 : Int).toNat))) := Same.new hqc
    have eC : (L2.upd H1 qc (.lst ((kq.map fun q => V.ref q.1).take (2 : Int).toNat))) qc = some (.lst ((kq.map fun q => V.ref q.1).take (2 : Int).toNat)) := upd_same
    generalize L2.upd H1 qc (.lst ((kq.map fun q => V.ref q.1).take (2 : Int).toNat)) = HC at sC eC ⊢
    have s0C := s01.trans sC
    refine ⟨qc, rfl, ⟨_, SqL.of eC⟩, for_list (K := K) (a := qc) (xs := (kq.map fun q => V.ref q.1).take (2 : Int).toNat) (fun i σ H' => (∃ v4 v5 v6 o OS, σ = [some (.ref p), some (.ref e), some (.ref kn), some (.ref o), v4, v5, v6] ∧ H' o = some (.lst OS) ∧ H o = none ∧ (∀ x ∈ OS, BadIn p ns es (hide o H') x) ∧ 0 < OS.length ∧ OS.length ≤ 40 + 5 * i) ∧ Same HC H')
      ⟨⟨_, _, _, o, OS, rfl, sC _ _ eo, fo, badO_same hx sC, by omega, by omega⟩, Same.refl _⟩ (fun i σ H' _ ⟨_, s⟩ => SqL.of (s _ _ eC)) ?_ ?_⟩
    · clear eo fo hx lo lo40 op oe okn qbo
      rintro i x σ H1 hi ⟨⟨v4, v5, v6, o, OS, rfl, eo, fo, hx, lo, hi6⟩, s1⟩
      have s01 := s0C.trans s1
      have S1 := S0.but s01
      have i2 : i < 2 := by have := (List.getElem?_eq_some_iff.mp hi).1; rw [List.length_take] at this; have : min (2 : Int).toNat (kq.map fun q => V.ref q.1).length ≤ 2 := Nat.min_le_left _ _; omega
      obtain ⟨j, hj⟩ := List.getElem?_of_mem (List.mem_of_mem_take (List.mem_of_getElem? hi))
      rw [List.getElem?_map] at hj
      obtain ⟨q0, hq0, rfl⟩ : ∃ q, kq[j]? = some q ∧ V.ref q.1 = x := by
        cases c : kq[j]? with
        | none => rw [c] at hj; cases hj
        | some q => rw [c] at hj; exact ⟨q, rfl, Option.some.inj hj⟩
      have mq := List.mem_of_getElem? hq0
      have inP : prV q0 ∈ pairsOf es := by rw [← k3]; exact List.mem_map.mpr ⟨q0, mq, rfl⟩
      obtain ⟨m1, m2, _⟩ := pairs_mem inP
      have P1 := (k2 q0 mq).same s01
      obtain ⟨d1, d2, d3, d4, d5⟩ := bad_pairs (es := es) b8 (gok.eo _ m1) (gok.eo _ m2) (pairs_lt gok.asc inP)
      have ox : Od (hide p H1) (.ref q0.2.1.1) (encE q0.2.1.2) := od_edge (hide_at (by obtain ⟨x1, x2, x3, w⟩ := id S1; exact ne_of P1.one w (fun z => by cases z)) P1.one)
      have oy : Od (hide p H1) (.ref q0.2.2.1) (encE q0.2.2.2) := od_edge (hide_at (by obtain ⟨x1, x2, x3, w⟩ := id S1; exact ne_of P1.two w (fun z => by cases z)) P1.two)
      have pe1 : H1 q0.2.1.1 = some (.tup [.str q0.2.1.2.1, .str q0.2.1.2.2]) := P1.one
      have hb : ∀ x ∈ ([] : List V), BadIn p ns es H1 x := fun x m => nomatch m
      refine ⟨q0.1, _, rfl, SqT.of P1.ob, rfl, _, _, rfl, _, _, rfl, rfl, ?_⟩
      refine ⟨_, rfl, _, rfl, _, rfl, ?_⟩
      refine ⟨by show 2 ≤ sizeLine; decide, fun r1 hr1 => ?_⟩
      have sr1 : Same H1 (L2.upd H1 r1 (.tup [.ref q0.2.2.1, .ref q0.2.1.1])) := Same.new hr1
      have or1 : Od (hide p (L2.upd H1 r1 (.tup [.ref q0.2.2.1, .ref q0.2.1.1]))) (.ref r1) (.tuple [encE q0.2.2.2, encE q0.2.1.2]) := od_newT S1 hr1 (.cons oy (.cons ox .nil))
      have er1 : (L2.upd H1 r1 (.tup [.ref q0.2.2.1, .ref q0.2.1.1])) r1 = some (.tup [.ref q0.2.2.1, .ref q0.2.1.1]) := upd_same
      generalize L2.upd H1 r1 (.tup [.ref q0.2.2.1, .ref q0.2.1.1]) = Hr1 at sr1 or1 er1 ⊢
      have Sr1 := S1.but sr1
      have ox := ox.same (But.hide (But.of_same sr1))
      have oy := oy.same (But.hide (But.of_same sr1))
      have hb := fun x m => (hb x m).but (But.of_same sr1)
      have pe1 := sr1 _ _ pe1
      have hb := bad_grow hb (Same.refl _) ⟨_, or1, d1⟩
      refine ⟨_, rfl, _, rfl, by show 2 ≤ sizeLine; decide, fun r2 hr2 => ?_⟩
      have sr2 : Same Hr1 (L2.upd Hr1 r2 (.lst [.ref q0.2.1.1, .ref q0.2.2.1])) := Same.new hr2
      have or2 : Od (hide p (L2.upd Hr1 r2 (.lst [.ref q0.2.1.1, .ref q0.2.2.1]))) (.ref r2) (.list [encE q0.2.1.2, encE q0.2.2.2]) := od_newL Sr1 hr2 (.cons ox (.cons oy .nil))
      have er2 : (L2.upd Hr1 r2 (.lst [.ref q0.2.1.1, .ref q0.2.2.1])) r2 = some (.lst [.ref q0.2.1.1, .ref q0.2.2.1]) := upd_same
      generalize L2.upd Hr1 r2 (.lst [.ref q0.2.1.1, .ref q0.2.2.1]) = Hr2 at sr2 or2 er2 ⊢
      have Sr2 := Sr1.but sr2
      have ox := ox.same (But.hide (But.of_same sr2))
      have oy := oy.same (But.hide (But.of_same sr2))
      have hb := fun x m => (hb x m).but (But.of_same sr2)
      have pe1 := sr2 _ _ pe1
      have hb := bad_grow hb (Same.refl _) ⟨_, or2, d2⟩
      refine ⟨_, rfl, _, rfl, _, rfl, by show 3 ≤ sizeLine; decide, fun r3 hr3 => ?_⟩
      have sr3 : Same Hr2 (L2.upd Hr2 r3 (.tup [.ref q0.2.1.1, .ref q0.2.2.1, .ref q0.2.1.1])) := Same.new hr3
      have or3 : Od (hide p (L2.upd Hr2 r3 (.tup [.ref q0.2.1.1, .ref q0.2.2.1, .ref q0.2.1.1]))) (.ref r3) (.tuple [encE q0.2.1.2, encE q0.2.2.2, encE q0.2.1.2]) := od_newT Sr2 hr3 (.cons ox (.cons oy (.cons ox .nil)))
      have er3 : (L2.upd Hr2 r3 (.tup [.ref q0.2.1.1, .ref q0.2.2.1, .ref q0.2.1.1])) r3 = some (.tup [.ref q0.2.1.1, .ref q0.2.2.1, .ref q0.2.1.1]) := upd_same
      generalize L2.upd Hr2 r3 (.tup [.ref q0.2.1.1, .ref q0.2.2.1, .ref q0.2.1.1]) = Hr3 at sr3 or3 er3 ⊢
      have Sr3 := Sr2.but sr3
      have ox := ox.same (But.hide (But.of_same sr3))
      have oy := oy.same (But.hide (But.of_same sr3))
      have hb := fun x m => (hb x m).but (But.of_same sr3)
      have pe1 := sr3 _ _ pe1
      have hb := bad_grow hb (Same.refl _) ⟨_, or3, d3⟩
      refine ⟨_, rfl, q0.2.1.1, _, rfl, .inr (SqT.of pe1), ?_⟩
      refine fun r4 hr4 => ?_
      have sr4 : Same Hr3 (L2.upd Hr3 r4 (.lst [.str q0.2.1.2.1, .str q0.2.1.2.2])) := Same.new hr4
      have or4 : Od (hide p (L2.upd Hr3 r4 (.lst [.str q0.2.1.2.1, .str q0.2.1.2.2]))) (.ref r4) (.list [.str q0.2.1.2.1, .str q0.2.1.2.2]) := od_newL Sr3 hr4 (.cons (.str _) (.cons (.str _) .nil))
      have er4 : (L2.upd Hr3 r4 (.lst [.str q0.2.1.2.1, .str q0.2.1.2.2])) r4 = some (.lst [.str q0.2.1.2.1, .str q0.2.1.2.2]) := upd_same
      generalize L2.upd Hr3 r4 (.lst [.str q0.2.1.2.1, .str q0.2.1.2.2]) = Hr4 at sr4 or4 er4 ⊢
      have Sr4 := Sr3.but sr4
      have ox := ox.same (But.hide (But.of_same sr4))
      have oy := oy.same (But.hide (But.of_same sr4))
      have hb := fun x m => (hb x m).but (But.of_same sr4)
      have pe1 := sr4 _ _ pe1
      refine ⟨_, rfl, by show 2 ≤ sizeLine; decide, fun r5 hr5 => ?_⟩
      have sr5 : Same Hr4 (L2.upd Hr4 r5 (.tup [.ref r4, .ref q0.2.2.1])) := Same.new hr5
      have or5 : Od (hide p (L2.upd Hr4 r5 (.tup [.ref r4, .ref q0.2.2.1]))) (.ref r5) (.tuple [.list [.str q0.2.1.2.1, .str q0.2.1.2.2], encE q0.2.2.2]) := od_newT Sr4 hr5 (.cons or4 (.cons oy .nil))
      have er5 : (L2.upd Hr4 r5 (.tup [.ref r4, .ref q0.2.2.1])) r5 = some (.tup [.ref r4, .ref q0.2.2.1]) := upd_same
      generalize L2.upd Hr4 r5 (.tup [.ref r4, .ref q0.2.2.1]) = Hr5 at sr5 or5 er5 ⊢
      have Sr5 := Sr4.but sr5
      have ox := ox.same (But.hide (But.of_same sr5))
      have oy := oy.same (But.hide (But.of_same sr5))
      have hb := fun x m => (hb x m).but (But.of_same sr5)
      have pe1 := sr5 _ _ pe1
      have hb := bad_grow hb (Same.refl _) ⟨_, or5, d4⟩
      refine ⟨_, rfl, q0.2.1.1, _, _, rfl, pe1, ?_⟩
      refine fun r6 hr6 => ?_
      have sr6 : Same Hr5 (L2.upd Hr5 r6 (.tup [.str q0.2.1.2.2, .str q0.2.1.2.1])) := Same.new hr6
      have or6 : Od (hide p (L2.upd Hr5 r6 (.tup [.str q0.2.1.2.2, .str q0.2.1.2.1]))) (.ref r6) (.tuple [.str q0.2.1.2.2, .str q0.2.1.2.1]) := od_newT Sr5 hr6 (.cons (.str _) (.cons (.str _) .nil))
      have er6 : (L2.upd Hr5 r6 (.tup [.str q0.2.1.2.2, .str q0.2.1.2.1])) r6 = some (.tup [.str q0.2.1.2.2, .str q0.2.1.2.1]) := upd_same
      generalize L2.upd Hr5 r6 (.tup [.str q0.2.1.2.2, .str q0.2.1.2.1]) = Hr6 at sr6 or6 er6 ⊢
      have Sr6 := Sr5.but sr6
      have ox := ox.same (But.hide (But.of_same sr6))
      have oy := oy.same (But.hide (But.of_same sr6))
      have hb := fun x m => (hb x m).but (But.of_same sr6)
      have pe1 := sr6 _ _ pe1
      refine ⟨_, rfl, by show 2 ≤ sizeLine; decide, fun r7 hr7 => ?_⟩
      have sr7 : Same Hr6 (L2.upd Hr6 r7 (.tup [.ref r6, .ref q0.2.2.1])) := Same.new hr7
      have or7 : Od (hide p (L2.upd Hr6 r7 (.tup [.ref r6, .ref q0.2.2.1]))) (.ref r7) (.tuple [.tuple [.str q0.2.1.2.2, .str q0.2.1.2.1], encE q0.2.2.2]) := od_newT Sr6 hr7 (.cons or6 (.cons oy .nil))
      have er7 : (L2.upd Hr6 r7 (.tup [.ref r6, .ref q0.2.2.1])) r7 = some (.tup [.ref r6, .ref q0.2.2.1]) := upd_same
      generalize L2.upd Hr6 r7 (.tup [.ref r6, .ref q0.2.2.1]) = Hr7 at sr7 or7 er7 ⊢
      have Sr7 := Sr6.but sr7
      have ox := ox.same (But.hide (But.of_same sr7))
      have oy := oy.same (But.hide (But.of_same sr7))
      have hb := fun x m => (hb x m).but (But.of_same sr7)
      have pe1 := sr7 _ _ pe1
      have hb := bad_grow hb (Same.refl _) ⟨_, or7, d5⟩
      have s12 : Same H1 Hr7 := (sr1.trans (sr2.trans (sr3.trans (sr4.trans (sr5.trans (sr6.trans sr7))))))
      obtain ⟨M0, hOS⟩ : ∃ OS : List V, OS = [.ref r1, .ref r2, .ref r3, .ref r5, .ref r7] := ⟨_, rfl⟩
      have hb : ∀ x ∈ M0, BadIn p ns es Hr7 x := by rw [hOS]; exact hb
      have lM : M0.length = 5 := by rw [hOS]; rfl
      refine ⟨by show 5 ≤ sizeLine; decide, fun rl hrl => ?_⟩
      have s23 : Same Hr7 (L2.upd Hr7 rl (.lst [.ref r1, .ref r2, .ref r3, .ref r5, .ref r7])) := Same.new hrl
      have erl : (L2.upd Hr7 rl (.lst [.ref r1, .ref r2, .ref r3, .ref r5, .ref r7])) rl = some (.lst [.ref r1, .ref r2, .ref r3, .ref r5, .ref r7]) := upd_same
      generalize L2.upd Hr7 rl (.lst [.ref r1, .ref r2, .ref r3, .ref r5, .ref r7]) = H3 at s23 erl ⊢
      rw [← hOS] at erl
      have s13 := s12.trans s23
      refine ⟨o, rl, OS, M0, rfl, rfl, s13 _ _ eo, erl, by rw [lM, sizeLine_eq]; omega, fun o2 ho2 => ?_⟩
      have s34 : Same H3 (L2.upd H3 o2 (.lst (OS ++ M0))) := Same.new ho2
      have s14 := s13.trans s34
      refine ⟨⟨_, _, _, o2, OS ++ M0, rfl, upd_same, (s01.trans s13).free ho2, badO_new (bad_app (badO_out hx) (But.of_same s13) (fun x m => (hb x m).but (But.of_same s23))) ho2, by rw [List.length_append]; omega, by rw [List.length_append, lM]; omega⟩, s1.trans s14⟩
    clear eo fo hx lo lo40 op oe okn qbo
    rintro σ H1 ⟨⟨v4, v5, v6, o, OS, rfl, eo, fo, hx, lo, hi6⟩, s1⟩
    have lo50 : OS.length ≤ 50 := by rw [List.length_take] at hi6; have : min (2 : Int).toNat (kq.map fun q => V.ref q.1).length ≤ 2 := Nat.min_le_left _ _; omega
    have s01 := s0C.trans s1
    refine ⟨_, rfl, _, rfl, p, o, OS, rfl, S0.but s01, (S0.ne fo).symm, SqL.of eo, eo, lo, by omega, fun x H2 hm S2 B2 => ?_⟩
    exact k x H2 ((badO_out hx x hm).but B2) S2 ((But.of_same s01).trans B2)
end
end CP
/-! the law -/
namespace CP
open PySem PySem.Spec PyProof.Rows L2
abbrev sLaw : Stmt := top 78
theorem cut_ints (ns : List Int) (lo hi : Option Int) : ∃ ms : List Int, cutV (ns.map V.int) lo hi = ms.map V.int ∧ ms.length ≤ ns.length := by
  unfold cutV
  refine ⟨(ns.drop (HT.sIx (ns.map V.int).length 0 lo)).take (HT.sIx (ns.map V.int).length (ns.map V.int).length hi - HT.sIx (ns.map V.int).length 0 lo), by rw [List.map_take, List.map_drop], ?_⟩
  rw [List.length_take, List.length_drop]; omega
theorem rec_bad {ns : List Str} {es : List E2} (asc : AscE es) (eo : ∀ e ∈ es, EdOk ns e) {db : PyData} {rest : List PyData} : ∀ {ps : List (E2 × E2)} {seen : List (E2 × E2)} {i : Nat}, ps.Nodup → (∀ p ∈ ps, p ∈ pairsOf es) → (∀ p ∈ ps, p ∉ seen) → (prB ns es db = false ∨ ∃ q, (q ∈ ps ∨ q ∈ seen) ∧ db = pD q) →
    badFrom ns es seen i (ps.map pD ++ db :: rest) = some (i + ps.length)
  | [], seen, i, _, _, _, hb => by
    show (if (prB ns es db && !decide (ppOf db ∈ seen)) = true then _ else some i) = some i
    refine if_neg fun c => ?_
    simp only [Bool.and_eq_true, Bool.not_eq_true', decide_eq_false_iff_not] at c
    rcases hb with h | ⟨q, h | h, rfl⟩
    · rw [h] at c; cases c.1
    · cases h
    · exact c.2 h
  | p :: ps, seen, i, nd, sub, ns', hb => by
    obtain ⟨n1, n2⟩ := List.nodup_cons.mp nd
    have b : prB ns es (pD p) = true := by
      rw [← any_pr asc eo, any_P]; exact decide_eq_true (sub p List.mem_cons_self)
    have c : decide (ppOf (pD p) ∈ seen) = false := decide_eq_false (ns' p List.mem_cons_self)
    show (if (prB ns es (pD p) && !decide (ppOf (pD p) ∈ seen)) = true then badFrom ns es (ppOf (pD p) :: seen) (i + 1) (ps.map pD ++ db :: rest) else some i) = _
    rw [b, c]
    have ih := rec_bad asc eo (db := db) (rest := rest) (seen := ppOf (pD p) :: seen) (i := i + 1) n2 (fun q hq => sub q (List.mem_cons_of_mem _ hq)) (fun q hq z => by
      rcases List.mem_cons.mp z with z | z
      · exact n1 ((show q = p from z) ▸ hq)
      · exact ns' q (List.mem_cons_of_mem _ hq) z) (hb.imp id fun ⟨q, h, e⟩ => ⟨q, by
        rcases h with h | h
        · rcases List.mem_cons.mp h with h | h
          · exact .inr (List.mem_cons.mpr (.inl h))
          · exact .inl h
        · exact .inr (List.mem_cons_of_mem _ h), e⟩)
    refine (if_pos rfl).trans (ih.trans ?_)
    rw [List.length_cons]; congr 1; omega
theorem ifS_k {c : TT} {t u : TS} {D : Ends} {σ : L2.St} {H : Hp} (R : L2.St → Hp → Prop) (hk : ∀ σ' H', R σ' H' → D.nx σ' H') (h : (∀ σ' H', R σ' H' → D.nx σ' H') → tIfS c t u D σ H) : tIfS c t u D σ H := h hk
theorem ifQ_k {c : TT} {t u b : TS} {D : Ends} {σ : L2.St} {H : Hp} (R : L2.St → Hp → Prop) (hk : ∀ σ' H', R σ' H' → b D σ' H') (h : (∀ σ' H', R σ' H' → b D σ' H') → tSeq (tIfS c t u) b D σ H) : tSeq (tIfS c t u) b D σ H := h hk
def saidD (i : Int) : PyData := .tuple [.str "no record", .int i]
theorem said_shaped (i : Int) : SeqAt.shaped (saidD i) = true := by
  have : PyData.strOk ("no record" : Str) = true := by decide +kernel
  simp [SeqAt.shaped, saidD, PyData.canLay0, PyData.canLayAll0, PyData.depth, PyData.depthAll, this]
theorem said_eqv (i : Int) : PyData.eqv (saidD i) (saidD i) = true := by simp [saidD, PyData.eqv, PyData.eqvAll]
theorem said_dp {K : PySem.W.Frag} {H : Hp} {t : Addr} {i : Int} (h : H t = some (.tup [.str "no record", .int i])) : Dp K H (.ref t) (saidD i) := .tup (SqT.of h) (.cons (.str _) (.cons (.int _) .nil))
def spLaw (K : PySem.W.Frag) : Sp := fun vs H Q _ => ∃ (a : Addr) (ns : List Int), vs = [.ref a] ∧ SqL K H a (ns.map V.int) ∧ ns.length ≤ 63 ∧ ∀ H', Q (.bl true) H'
section
variable {P : Program} {w : World} {K : PySem.W.Frag} {mg : Str → Option Value} {base : Heap}
abbrev nLaw : List Str := ["_law_script", "_law_cell", "_law_source", "_law_names", "_law_edges", "_law_board", "_law_known", "_law_turn_at", "_law_thing", "_law_record", "_law_at", "_law_bad", "_law_row", "_law_kept"]
theorem scLaw : FnScope nLaw ["_law_script"] (defScope sLaw) := ⟨rfl, rfl, rfl, by decide +kernel, rfl, by decide +kernel, by decide +kernel⟩
theorem ok_law {f fC fS fG fO fM fU fP fN fB fZ fI C : Addr} {fd fdC fdS fdG fdO fdM fdU fdP fdN fdB fdZ fdI : FuncData} (F : Fun K "law" "law" sLaw f fd) (T : GTxt K mg C) (ml : mg "len" = none) (mrp : mg "repr" = none) (mt : mg "tuple" = none) (mr : mg "range" = none)
    (mC : mg "_law_cell_at" = some (.ref fC)) (GC : FnOk P w K mg base CX0 1 fC fdC ["_law_script", "_law_k"] (spCell K)) (kC : PySem.W.keepIn K (.ref fC) = true) (bC : Binds K fdC ["_law_script", "_law_k"] [])
    (mS : mg "_law_source_of" = some (.ref fS)) (GS : FnOk P w K mg base CX0 1 fS fdS ["_law_cell"] spSource) (kS : PySem.W.keepIn K (.ref fS) = true) (bS : Binds K fdS ["_law_cell"] [])
    (mG : mg "_law_graph" = some (.ref fG)) (GG : FnOk P w K mg base CX0 3 fG fdG ["_law_source", "_law_most"] spGraph) (kG : PySem.W.keepIn K (.ref fG) = true) (bG : Binds K fdG ["_law_source", "_law_most"] [])
    (mO : mg "_law_one" = some (.ref fO)) (GO : FnOk P w K mg base CX0 2 fO fdO ["_law_source", "_law_some"] (spOne K)) (kO : PySem.W.keepIn K (.ref fO) = true) (bO : Binds K fdO ["_law_source", "_law_some"] [])
    (mM : mg "_law_mixed" = some (.ref fM)) (GM : FnOk P w K mg base CX0 2 fM fdM ["_law_source", "_law_some"] (spMixed K)) (kM : PySem.W.keepIn K (.ref fM) = true) (bM : Binds K fdM ["_law_source", "_law_some"] [])
    (mU : mg "_law_subset" = some (.ref fU)) (GU : FnOk P w K mg base CX0 3 fU fdU ["_law_source", "_law_items"] spSubset) (kU : PySem.W.keepIn K (.ref fU) = true) (bU : Binds K fdU ["_law_source", "_law_items"] [])
    (mP : mg "_law_pairs" = some (.ref fP)) (GP : FnOk P w K mg base CX0 1 fP fdP ["_law_edges"] spLawPairs) (kP : PySem.W.keepIn K (.ref fP) = true) (bP : Binds K fdP ["_law_edges"] [])
    (mN : mg "_law_next" = some (.ref fN)) (GN : FnOk P w K mg base CX0 1 fN fdN ["_law_source", "_law_many"] spNext) (kN : PySem.W.keepIn K (.ref fN) = true) (bN : Binds K fdN ["_law_source", "_law_many"] [])
    (mB : mg "_law_bad_pair" = some (.ref fB)) (GB : FnOk P w K mg base CX0 3 fB fdB ["_law_source", "_law_edges", "_law_known"] spBad) (kB : PySem.W.keepIn K (.ref fB) = true) (bB : Binds K fdB ["_law_source", "_law_edges", "_law_known"] [])
    (mZ : mg "_law_said" = some (.ref fZ)) (GZ : FnOk P w K mg base CX0 10 fZ fdZ ["_law_board", "_law_record"] (spSaid C)) (kZ : PySem.W.keepIn K (.ref fZ) = true) (bZ : Binds K fdZ ["_law_board", "_law_record"] [])
    (MI : Mk K C fI) (GI : FnOk P w K mg base CX0 4 fI fdI ["self", "vertices", "edges"] (spInit C)) (bI : Binds K fdI ["self", "vertices", "edges"] []) :
    FnG P w K mg base 11 f fd ["_law_script"] (spLaw K) := by
  refine okG F scLaw (fun vs H Q E h => ?_) (fun cdv A outer s H vs Q E hr gds h => ?_)
  · obtain ⟨a, ns, rfl, _⟩ := h; rfl
  · obtain ⟨a, sc, rfl, hA, h63, k⟩ := h
    have hr1 : Room 1 _ := hr.mono (by decide)
    have hr2 : Room 2 _ := hr.mono (by decide)
    have hr3 : Room 3 _ := hr.mono (by decide)
    have hr5 : Room 5 _ := hr.mono (by decide)
    refine ⟨_, pss_cons (ps_for PassesOwn.never rfl (pi_list (pe_op op_cat (pe_lst (pa_cons (pe_call GC hr1 rfl mC kC bC .nil pass0 (pa_cons (pv 0) (pa_cons pe_int pa_nil))) pa_nil)) (pe_slice sl_list (pv 0) (po_some pe_int) (po_some pe_int)))) (pg_name (i := 1) scLaw.nd rfl (Or.inl rfl))
        (pss_cons (ps_set (i := 2) scLaw.nd rfl (Or.inl rfl) (pe_call GS hr1 rfl mS kS bS .nil pass0 (pa_cons (pv 1) pa_nil)))
        (pss_cons (ps_asg (pe_call GG hr3 rfl mG kG bG .nil pass0 (pa_cons (pv 2) (pa_cons pe_int pa_nil))) (pg_tup rfl (pgs_cons (pg_name (i := 3) scLaw.nd rfl (Or.inl rfl)) (pgs_cons (pg_name (i := 4) scLaw.nd rfl (Or.inl rfl)) pgs_nil))))
        (pss_cons (ps_set (i := 5) scLaw.nd rfl (Or.inl rfl) (pe_make MI GI hr5 rfl T.mg bI .nil pass0 (pa_cons (pv 3) (pa_cons (pv 4) pa_nil))))
        (pss_cons (ps_set (i := 6) scLaw.nd rfl (Or.inl rfl) (pe_call GP hr1 rfl mP kP bP .nil pass0 (pa_cons (pv 4) pa_nil)))
        (pss_one (ps_for PassesOwn.never rfl (pi_range1 rfl mr (pa_cons pe_int pa_nil)) (pg_name (i := 7) scLaw.nd rfl (Or.inl rfl))
          (pss_cons (ps_set (i := 8) scLaw.nd rfl (Or.inl rfl) (pe_call GO hr2 rfl mO kO bO .nil pass0 (pa_cons (pv 2) (pa_cons (pe_lst (pa_cons pe_non (pa_cons pe_int (pa_cons pe_str (pa_cons pe_dnewK (pa_cons pe_bl (pa_cons (pv 5) pa_nil))))))) pa_nil))))
          (pss_cons (ps_if (pt_cmpR (op_neD hr.units) (pe_call GZ hr rfl mZ kZ bZ .nil pass0 (pa_cons (pv 5) (pa_cons (pv 8) pa_nil))) (pe_tup (pa_cons pe_str (pa_cons (pe_un un_neg pe_int) pa_nil))) (nomark _)) (pss_one (ps_ret pe_bl)) pss_nil)
          (pss_cons (ps_set (i := 9) scLaw.nd rfl (Or.inl rfl) (pe_call GM hr2 rfl mM kM bM .nil pass0 (pa_cons (pv 2) (pa_cons (pe_call GU hr3 rfl mU kU bU .nil pass0 (pa_cons (pv 2) (pa_cons (pv 6) pa_nil))) pa_nil))))
          (pss_cons (ps_set (i := 10) scLaw.nd rfl (Or.inl rfl) (pe_call GN hr1 rfl mN kN bN .nil pass0 (pa_cons (pv 2) (pa_cons (pe_op op_add (pe_callB call_len_seq (by rfl) ml PySem.boot_len (pa_cons (pv 9) pa_nil)) pe_int) pa_nil))))
          (pss_cons (ps_set (i := 11) scLaw.nd rfl (Or.inl rfl) (pe_call GB hr3 rfl mB kB bB .nil pass0 (pa_cons (pv 2) (pa_cons (pv 4) (pa_cons (pv 6) pa_nil)))))
          (pss_cons (ps_if (PW.pt (pw_and (pt_cmpR op_gt (pv 10) pe_int (nomark _)) (pw_and1 (pt_cmpR op_eq (pe_call GN hr1 rfl mN kN bN .nil pass0 (pa_cons (pv 2) (pa_cons pe_int pa_nil))) pe_int (nomark _)))))
            (pss_one (ps_set (i := 11) scLaw.nd rfl (Or.inl rfl) (pe_call GO hr2 rfl mO kO bO .nil pass0 (pa_cons (pv 2) (pa_cons (pe_slice sl_list (pv 9) po_none (po_some (pv 10))) pa_nil))))) pss_nil)
          (pss_cons (ps_set (i := 12) scLaw.nd rfl (Or.inl rfl) (pe_op op_cat (pe_op op_cat (pe_op op_cat (pe_slice sl_list (pv 9) po_none (po_some (pv 10))) (pe_lst (pa_cons (pv 11) pa_nil))) (pe_slice sl_list (pv 9) (po_some (pv 10)) po_none)) (pe_lst (pa_cons (pe_call GB hr3 rfl mB kB bB .nil pass0 (pa_cons (pv 2) (pa_cons (pv 4) (pa_cons (pv 6) pa_nil)))) pa_nil))))
          (pss_cons (ps_if (pt_cmpR op_eq (pe_call GN hr1 rfl mN kN bN .nil pass0 (pa_cons (pv 2) (pa_cons pe_int pa_nil))) pe_int (nomark _)) (pss_one (ps_set (i := 12) scLaw.nd rfl (Or.inl rfl) (pe_callTy call_tuple_of (by rfl) mt (by decide +kernel) (pa_cons (pv 12) pa_nil)))) pss_nil)
          (pss_cons (ps_set (i := 13) scLaw.nd rfl (Or.inl rfl) (pe_callB (call_reprO gds hr.units) (by rfl) mrp (by decide +kernel) (pa_cons (pv 12) pa_nil)))
          (pss_one (ps_if (PW.pt (pw_or (pt_cmpR (op_neD hr.units) (pe_call GZ hr rfl mZ kZ bZ .nil pass0 (pa_cons (pv 5) (pa_cons (pv 12) pa_nil))) (pe_tup (pa_cons pe_str (pa_cons (pv 10) pa_nil))) (nomark _))
              (pw_or1 (pt_cmpR op_ne (pe_callB (call_reprO gds hr.units) (by rfl) mrp (by decide +kernel) (pa_cons (pv 12) pa_nil)) (pv 13) (nomark _))))) (pss_one (ps_ret pe_bl)) pss_nil))))))))))))))))))
      (pss_one (ps_ret pe_bl)), ?_⟩
    refine ⟨_, rfl, a, sc, rfl, hA, fun c0 => ?_⟩
    refine ⟨by show 1 ≤ sizeLine; decide, fun l1 hl1 => ?_⟩
    have s1 : Same H (L2.upd H l1 (.lst [.int c0])) := Same.new hl1
    obtain ⟨ms, em, lm⟩ := cut_ints sc (some 1) (some 6)
    refine ⟨_, rfl, _, rfl, _, rfl, a, _, rfl, s1.seq hA, fun l2 hl2 => ?_⟩
    rw [em]
    have s2 : Same (L2.upd H l1 (.lst [.int c0])) (L2.upd (L2.upd H l1 (.lst [.int c0])) l2 (.lst (ms.map V.int))) := Same.new hl2
    refine ⟨l1, l2, _, _, rfl, rfl, s2 _ _ upd_same, upd_same, by rw [List.length_map, sizeLine_eq]; show 1 + ms.length ≤ _; omega, fun L hL => ?_⟩
    generalize hH0 : L2.upd (L2.upd (L2.upd H l1 (.lst [.int c0])) l2 (.lst (ms.map V.int))) L (.lst ([V.int c0] ++ ms.map V.int)) = H0
    have L0 : H0 L = some (.lst ((c0 :: ms).map V.int)) := by rw [← hH0]; exact upd_same
    refine ⟨L, rfl, ⟨_, SqL.of L0⟩, for_list (K := K) (a := L) (xs := (c0 :: ms).map V.int) (fun i σ H' => (∃ v1 v2 v3 v4 v5 v6 v7 v8 v9 v10 v11 v12 v13, σ = [some (.ref a), v1, v2, v3, v4, v5, v6, v7, v8, v9, v10, v11, v12, v13]) ∧ Same H0 H')
      ⟨⟨_, _, _, _, _, _, _, _, _, _, _, _, _, rfl⟩, Same.refl _⟩ (fun i σ H' _ ⟨_, s⟩ => SqL.of (s _ _ L0)) ?_ ?_⟩
    rotate_left
    · rintro σ H1 ⟨_, s01⟩
      exact k H1
    rintro i x σ H1 hi ⟨⟨v1, v2, v3, v4, v5, v6, v7, v8, v9, v10, v11, v12, v13, rfl⟩, s01⟩
    obtain ⟨c, rfl⟩ : ∃ c, x = V.int c := by
      rw [List.getElem?_map] at hi
      cases e : (c0 :: ms)[i]? with
      | none => rw [e] at hi; cases hi
      | some c => rw [e] at hi; exact ⟨c, (Option.some.inj hi).symm⟩
    clear hi
    refine ⟨_, rfl, c, rfl, fun p H2 hp S2 s12 => ?_⟩
    have p0 : H0 p = none := s01.free hp
    have s02 := s01.trans s12
    refine ⟨_, rfl, p, 8, rfl, by decide, by decide, S2, fun t n e ns ks H4 ht4 A4 nsub hn he S4 B4 => ?_⟩
    have np := S2.ne hn
    have ep := S2.ne he
    refine ⟨t, _, rfl, SqT.of ht4, rfl, _, _, rfl, _, _, rfl, rfl, ?_⟩
    have s04 : Same H0 H4 := Same.but s02 p0 B4
    refine ⟨_, rfl, _, rfl, fun g dx hg hdx gdx => ?_⟩
    have sg : Same H4 (L2.upd (L2.upd H4 dx (.own g)) g (.ins C dx [])) := fun b o x => by rw [upd_ne (ne_of_none x hg), upd_ne (ne_of_none x hdx)]; exact x
    refine ⟨g, dx, n, e, ns, ks, rfl, upd_same, A4.row.same sg, fun H5 G5 k5 => ⟨rfl, ?_⟩⟩
    have s45 : Same H4 H5 := Same.made hg hdx fun c o x n => k5 c o n x
    have S5 := S4.but s45
    have A5 := A4.same s45
    have s05 := s04.trans s45
    have asc := asc_sort A4.en
    have elS : (sortE ks).length ≤ 18 := by rw [(sortE_perm ks).length_eq]; exact A4.el
    have eoS : ∀ f ∈ (sortE ks).map (·.2), EdOk ns f := fun f hf => by
      obtain ⟨r, hr, rfl⟩ := List.mem_map.mp hf
      exact A4.eo r ((sortE_perm ks).mem_iff.mp hr)
    have gok' : GOk ns ((sortE ks).map (·.2)) := ⟨A4.n0, A4.n8, A4.nd, A4.nm, eoS, by rw [List.length_map]; exact elS, asc⟩
    refine ⟨_, rfl, e, ks, rfl, A5.ea, A5.ed, A5.el, fun kn H6 hkn R6 s56 => ?_⟩
    have knp : kn ≠ p := S5.ne hkn
    have R6 : PrsAt H6 kn (pairsOf ((sortE ks).map (·.2))) := by
      have q : upTo (rowL ((sortE ks).map (·.2))) (sortE ks).length = pairsOf ((sortE ks).map (·.2)) := by
        rw [upTo_congr (rows_same asc)]
        unfold pairsOf
        rw [List.length_map]
      rw [q] at R6; exact R6
    have S6 := S5.but s56
    have A6 := A5.same s56
    have G6 := G5.same s56
    have s06 := s05.trans s56
    generalize hes : (sortE ks).map (·.2) = es at asc eoS R6
    have gok : GOk ns es := by rw [← hes]; exact gok'
    have okE : ∀ f ∈ es, OkE f := fun f hf => gok.okE hf
    have inE : ∀ f ∈ es, f.1 ∈ base8 ∧ f.2 ∈ base8 := fun f hf => ⟨nsub _ (eoS f hf).1, nsub _ (eoS f hf).2.1⟩
    clear hg hdx gdx k5 sg S4 A4 s04 s45 S5 A5 s05 s56 G5 hkn hn he ht4 B4 S2 s12 s02 elS
    refine ⟨6, rfl, by decide, by decide, for_range (n := 6) (fun j σ H' => (∃ v7 v8 v9 v10 v11 v12 v13, σ = [some (.ref a), some (.int c), some (.ref p), some (.ref n), some (.ref e), some (.ref g), some (.ref kn), v7, v8, v9, v10, v11, v12, v13]) ∧ But p H6 H' ∧ Src H' p)
      ⟨⟨_, _, _, _, _, _, _, rfl⟩, But.refl, S6⟩ ?_ ?_⟩
    rotate_left
    · rintro σ H9 ⟨⟨w7, w8, w9, w10, w11, w12, w13, rfl⟩, B9, S9⟩
      exact ⟨⟨_, _, _, _, _, _, _, _, _, _, _, _, _, rfl⟩, Same.but s06 p0 B9⟩
    rintro j0 σ Hz hj0 ⟨⟨v7, v8, v9, v10, v11, v12, v13, rfl⟩, B6z, Sz⟩
    have Gz := G6.but S6 B6z
    -- a thing that is no row
    refine ⟨_, rfl, fun d0 hd0 => ?_⟩
    have sa : Same Hz (L2.upd Hz d0 (.dK [])) := Same.new hd0
    have ea : (L2.upd Hz d0 (.dK [])) d0 = some (.dK []) := upd_same
    have d0p : d0 ≠ p := Sz.ne hd0
    generalize L2.upd Hz d0 (.dK []) = Ha at sa ea ⊢
    refine ⟨_, rfl, by show 6 ≤ sizeLine; decide, fun l0 hl0 => ?_⟩
    have l0p : l0 ≠ p := (Sz.but sa).ne hl0
    have sb : Same Ha (L2.upd Ha l0 (.lst [.non, .int 5, .str "ab", .ref d0, .bl true, .ref g])) := Same.new hl0
    have eb : (L2.upd Ha l0 (.lst [.non, .int 5, .str "ab", .ref d0, .bl true, .ref g])) l0 = some (.lst [.non, .int 5, .str "ab", .ref d0, .bl true, .ref g]) := upd_same
    generalize L2.upd Ha l0 (.lst [.non, .int 5, .str "ab", .ref d0, .bl true, .ref g]) = Hb at sb eb ⊢
    have szb := sa.trans sb
    have Sb := Sz.but szb
    refine ⟨p, l0, _, rfl, Sb, l0p.symm, SqL.of eb, eb, by show 0 < 6; decide, by show 6 < 100000; decide, fun xt Hc hx Sc Bc => ?_⟩
    have Bzc : But p Hz Hc := (But.of_same szb).trans Bc
    have Gc := Gz.but Sz Bzc
    have thing : ∃ d, OdT C Hc xt d ∧ itD d = none := by
      simp only [List.mem_cons, List.not_mem_nil, or_false] at hx
      rcases hx with rfl | rfl | rfl | rfl | rfl | rfl
      · exact ⟨_, .inl .non, rfl⟩
      · exact ⟨_, .inl (.int 5), rfl⟩
      · exact ⟨_, .inl (.str "ab"), rfl⟩
      · exact ⟨_, .inl (.dct (Bc _ _ d0p (sb _ _ ea))), rfl⟩
      · exact ⟨_, .inl (.bl true), rfl⟩
      · obtain ⟨⟨dx, t1, t2, g1, _⟩, _⟩ := id Gc
        exact ⟨_, .inr ⟨g, dx, _, rfl, g1, rfl⟩, rfl⟩
    obtain ⟨d, od, it⟩ := thing
    have rb : recBad ns ((sortE ks).map (·.2)) d = some (-1) := by unfold recBad; rw [it]
    refine ⟨_, rfl, _, rfl, g, ns, sortE ks, xt, d, -1, rfl, Gc, gok', od, (fun ds h => by rw [it] at h; cases h), rb, fun t1 Hd ht1 et1 sd => ?_⟩
    refine ⟨1, rfl, by show 2 ≤ sizeLine; decide, fun t2 ht2 => ?_⟩
    have se : Same Hd (L2.upd Hd t2 (.tup [.str "no record", .int (-1)])) := Same.new ht2
    have ee : (L2.upd Hd t2 (.tup [.str "no record", .int (-1)])) t2 = some (.tup [.str "no record", .int (-1)]) := upd_same
    generalize L2.upd Hd t2 (.tup [.str "no record", .int (-1)]) = He at se ee ⊢
    refine ⟨_, _, said_dp (se _ _ et1), said_dp ee, said_shaped _, said_shaped _, _, rfl, ?_⟩
    rw [said_eqv]
    refine iteF ?_
    have B6e : But p H6 He := B6z.trans (Bzc.trans (But.of_same (sd.trans se)))
    have Se := Sc.but (sd.trans se)
    clear rb it od d Gc Bzc Bc hx Sb szb eb sb sa ea Gz B6z Sz hd0 hl0 sd se ee et1 ht1 ht2 Sc
    -- the record
    obtain ⟨qs, q1, q2, q3⟩ := R6.but S6 knp B6e
    have qok : ∀ q ∈ qs, OkP (prV q) := fun q hq => okP_in okE (by rw [← q3]; exact List.mem_map.mpr ⟨q, hq, rfl⟩)
    have qsl : qs.length ≤ 153 := by
      have := pairs_few gok.el
      rw [← q3, List.length_map] at this; exact this
    have pitem : ∀ {Hx : Hp} {q : Pr}, PrAt Hx q → OkP (prV q) → Item Hx (.ref q.1) := fun {Hx q} h o => ⟨_, .tup h.ob (.cons (.tup h.one (.cons (.str o.1.1) (.cons (.str o.1.2) .nil))) (.cons (.tup h.two (.cons (.str o.2.1) (.cons (.str o.2.2) .nil))) .nil)), by simp [PyData.depth, PyData.depthAll]⟩
    have it6 : ∀ x ∈ qs.map (fun q => V.ref q.1), Item He x := fun x hx => by
      obtain ⟨q, hq, rfl⟩ := List.mem_map.mp hx
      exact pitem (q2 q hq) (qok q hq)
    refine ⟨_, rfl, _, rfl, _, rfl, p, kn, _, rfl, Se, knp.symm, q1, it6, by rw [List.length_map]; omega, fun u us H7 sub7 hu eu S7 B7 => ?_⟩
    have up : u ≠ p := Se.ne hu
    obtain ⟨js, jsub, rfl⟩ := List.sublist_map_iff.mp sub7
    refine ⟨p, u, _, rfl, S7, up.symm, eu, (fun x hx => (it6 x (sub7.subset hx)).but Se B7), by rw [List.length_map]; have := jsub.length_le; omega, fun rc ys H8 pm8 hrc erc S8 B8 => ?_⟩
    have rcp : rc ≠ p := S7.ne hrc
    obtain ⟨is, pis, rfl⟩ := perm_map pm8 js rfl
    have Be8 := B7.trans B8
    have pr8 : ∀ q ∈ is, PrAt H8 q := fun r hr => by
      obtain ⟨x1, x2, x3, q⟩ := id Se
      have h := q2 r (jsub.subset (pis.mem_iff.mp hr))
      exact ⟨Be8 _ _ (ne_of h.ob q (fun z => by cases z)) h.ob, EdAt.but Se Be8 h.one, EdAt.but Se Be8 h.two⟩
    have nd : (is.map prV).Nodup := by
      have n1 : (qs.map prV).Nodup := by rw [q3]; exact asc_nd (pairs_asc asc)
      exact ((pis.map prV).nodup_iff).mpr (n1.sublist (jsub.map prV))
    have sub : ∀ q ∈ is, prV q ∈ pairsOf es := fun q hq => by
      rw [← q3]
      exact List.mem_map.mpr ⟨q, jsub.subset (pis.mem_iff.mp hq), rfl⟩
    have isl : is.length ≤ 153 := by rw [pis.length_eq]; exact Nat.le_trans jsub.length_le qsl
    have B68 := B6e.trans Be8
    have od8 : ∀ q ∈ is, Od (hide p H8) (.ref q.1) (pD (prV q)) := fun q hq => by
      obtain ⟨x1, x2, x3, w⟩ := id S8
      have h := pr8 q hq
      exact .tup (hide_at (ne_of h.ob w (fun z => by cases z)) h.ob) (.cons (od_edge (hide_at (ne_of h.one w (fun z => by cases z)) h.one)) (.cons (od_edge (hide_at (ne_of h.two w (fun z => by cases z)) h.two)) .nil))
    have smP : ∀ q ∈ is, Sm 300 5 (pD (prV q)) := fun q hq => by
      obtain ⟨m1, m2, _⟩ := pairs_mem (sub q hq)
      exact (sm_tup (all2 (sm_edge (inE _ m1).1 (inE _ m1).2) (sm_edge (inE _ m2).1 (inE _ m2).2))).mono (by simp only [List.length_cons, List.length_nil]; omega) (by decide)
    clear q1 q2 q3 qok qsl pitem it6 sub7 hu eu pm8 pis jsub B7 B8 Be8 up S7 hrc B6e Se
    -- where
    refine ⟨_, rfl, _, rfl, rc, _, rfl, .inl (SqL.of erc), _, _, rfl, rfl, p, _, rfl, S8, by omega, by rw [List.length_map]; omega, fun r H9 r0 r1 S9 B9 => ?_⟩
    obtain ⟨m, rfl⟩ : ∃ m : Nat, r = m := ⟨r.toNat, by omega⟩
    have ml : m ≤ is.length := by rw [List.length_map] at r1; omega
    -- what is no pair
    have known : ∀ {Hx : Hp}, But p H6 Hx → PrsAt Hx kn (pairsOf ((sortE ks).map (·.2))) := fun B => by rw [hes]; exact R6.but S6 knp B
    have args : ∀ {Hx : Hp}, But p H6 Hx → ArgsOk Hx n e ns ks := fun B => A6.but S6 np ep B
    have A9 := args (B68.trans B9)
    refine ⟨_, rfl, _, rfl, _, rfl, p, e, kn, ns, ks, rfl, S9, ep, knp, A9.ea, A9.ed, gok', nsub, known (B68.trans B9), fun x HA bx SA BA => ?_⟩
    rw [hes] at bx
    have B8A := B9.trans BA
    dsimp only [gName]
    refine ifQ_k (fun σ' H' => ∃ x d, σ' = [some (.ref a), some (.int c), some (.ref p), some (.ref n), some (.ref e), some (.ref g), some (.ref kn), some (.int (0 + (j0 : Int))), some xt, some (.ref rc), some (.int (m : Int)), some x, v12, v13] ∧ Od (hide p H') x d ∧ Sm 300 5 d ∧ (prB ns es d = false ∨ ∃ q, q ∈ (is.take m).map prV ∧ d = pD q) ∧ But p H8 H' ∧ Src H' p) ?_ (fun rest => ?_)
    rotate_left
    · obtain ⟨d, od, bd⟩ := bx
      refine ⟨_, rfl, _, _, rfl, rfl, _, rfl, ?_⟩
      by_cases cm : (m : Int) > 0
      · rw [decide_eq_true cm]
        refine iteT ⟨_, rfl, p, 3, rfl, SA, by decide, by decide, fun r2 HB r20 r21 SB BB => ⟨rfl, _, rfl, ?_⟩⟩
        have B8B := B8A.trans BB
        cases decide (V.int r2 = V.int 0) with
        | false => exact iteF (rest _ _ ⟨x, d, rfl, od.same (But.hide BB), bd.sm, .inl bd.no, B8B, SB⟩)
        | true =>
          refine iteT ⟨_, rfl, _, rfl, _, rfl, _, rfl, rc, _, rfl, SqL.of (B8B _ _ rcp erc), fun q hq => ?_⟩
          rw [cut_take _ _ (by omega), Int.toNat_natCast]
          have sq : Same HB (L2.upd HB q (.lst ((is.map fun q => V.ref q.1).take m))) := Same.new hq
          have eq : (L2.upd HB q (.lst ((is.map fun q => V.ref q.1).take m))) q = some (.lst ((is.map fun q => V.ref q.1).take m)) := upd_same
          have qp : q ≠ p := SB.ne hq
          generalize L2.upd HB q (.lst ((is.map fun q => V.ref q.1).take m)) = HC at sq eq ⊢
          have tl : ((is.map fun q => V.ref q.1).take m).length = m := by rw [List.length_take, List.length_map]; omega
          refine ⟨p, q, _, rfl, SB.but sq, qp.symm, SqL.of eq, eq, by rw [tl]; omega, by rw [tl]; omega, fun y HD hy SD BD => ?_⟩
          rw [← List.map_take] at hy
          obtain ⟨q0, hq0, rfl⟩ := List.mem_map.mp hy
          have mi := List.mem_of_mem_take hq0
          have B8D := B8B.trans ((But.of_same sq).trans BD)
          exact rest _ _ ⟨_, pD (prV q0), rfl, (od8 q0 mi).same (But.hide B8D), smP q0 mi, .inr ⟨prV q0, List.mem_map.mpr ⟨q0, hq0, rfl⟩, rfl⟩, B8D, SD⟩
      · rw [decide_eq_false cm]
        exact iteF (iteF (rest _ _ ⟨x, d, rfl, od, bd.sm, .inl bd.no, B8A, SA⟩))
    clear bx SA BA B8A A9 S9 B9 x
    rintro σ HE ⟨x, db, rfl, ob, smb, hb, B8E, SE⟩
    -- the row
    have B6E := B68.trans B8E
    refine ⟨_, rfl, _, rfl, _, rfl, rc, _, rfl, SqL.of (B8E _ _ rcp erc), fun q1 hq1 => ?_⟩
    rw [cut_take _ _ (by omega), Int.toNat_natCast]
    have s1 : Same HE (L2.upd HE q1 (.lst ((is.map fun q => V.ref q.1).take m))) := Same.new hq1
    have e1 : (L2.upd HE q1 (.lst ((is.map fun q => V.ref q.1).take m))) q1 = some (.lst ((is.map fun q => V.ref q.1).take m)) := upd_same
    generalize L2.upd HE q1 (.lst ((is.map fun q => V.ref q.1).take m)) = HF at s1 e1 ⊢
    refine ⟨_, rfl, by show 1 ≤ sizeLine; decide, fun q2 hq2 => ?_⟩
    have s2 : Same HF (L2.upd HF q2 (.lst [x])) := Same.new hq2
    have e2 : (L2.upd HF q2 (.lst [x])) q2 = some (.lst [x]) := upd_same
    generalize L2.upd HF q2 (.lst [x]) = HG at s2 e2 ⊢
    refine ⟨q1, q2, _, _, rfl, rfl, s2 _ _ e1, e2, by rw [List.length_take, List.length_map, sizeLine_eq]; show _ + 1 ≤ _; omega, fun q3 hq3 => ?_⟩
    have s3 : Same HG (L2.upd HG q3 (.lst ((is.map fun q => V.ref q.1).take m ++ [x]))) := Same.new hq3
    have e3 : (L2.upd HG q3 (.lst ((is.map fun q => V.ref q.1).take m ++ [x]))) q3 = some (.lst ((is.map fun q => V.ref q.1).take m ++ [x])) := upd_same
    generalize L2.upd HG q3 (.lst ((is.map fun q => V.ref q.1).take m ++ [x])) = HI at s3 e3 ⊢
    have sEI := s1.trans (s2.trans s3)
    refine ⟨_, rfl, _, rfl, _, rfl, rc, _, rfl, SqL.of (sEI _ _ (B8E _ _ rcp erc)), fun q4 hq4 => ?_⟩
    rw [cut_dropN]
    have s4 : Same HI (L2.upd HI q4 (.lst ((is.map fun q => V.ref q.1).drop m))) := Same.new hq4
    have e4 : (L2.upd HI q4 (.lst ((is.map fun q => V.ref q.1).drop m))) q4 = some (.lst ((is.map fun q => V.ref q.1).drop m)) := upd_same
    generalize L2.upd HI q4 (.lst ((is.map fun q => V.ref q.1).drop m)) = HJ at s4 e4 ⊢
    refine ⟨q3, q4, _, _, rfl, rfl, s4 _ _ e3, e4, by rw [List.length_append, List.length_take, List.length_drop, List.length_map, sizeLine_eq]; show _ + 1 + _ ≤ _; omega, fun q5 hq5 => ?_⟩
    have q5p : q5 ≠ p := (SE.but (sEI.trans s4)).ne hq5
    have s5 : Same HJ (L2.upd HJ q5 (.lst ((is.map fun q => V.ref q.1).take m ++ [x] ++ (is.map fun q => V.ref q.1).drop m))) := Same.new hq5
    have e5 : (L2.upd HJ q5 (.lst ((is.map fun q => V.ref q.1).take m ++ [x] ++ (is.map fun q => V.ref q.1).drop m))) q5 = some (.lst ((is.map fun q => V.ref q.1).take m ++ [x] ++ (is.map fun q => V.ref q.1).drop m)) := upd_same
    generalize L2.upd HJ q5 (.lst ((is.map fun q => V.ref q.1).take m ++ [x] ++ (is.map fun q => V.ref q.1).drop m)) = HK at s5 e5 ⊢
    have sEK := sEI.trans (s4.trans s5)
    have SK := SE.but sEK
    have B8K := B8E.trans (But.of_same sEK)
    have AK := args (B68.trans B8K)
    refine ⟨_, rfl, _, rfl, _, rfl, p, e, kn, ns, ks, rfl, SK, ep, knp, AK.ea, AK.ed, gok', nsub, known (B68.trans B8K), fun y HL by_ SL BL => ?_⟩
    obtain ⟨dy, oy, bdy⟩ := by_
    have B8L := B8K.trans BL
    refine ⟨by show 1 ≤ sizeLine; decide, fun q6 hq6 => ?_⟩
    have s6 : Same HL (L2.upd HL q6 (.lst [y])) := Same.new hq6
    have e6 : (L2.upd HL q6 (.lst [y])) q6 = some (.lst [y]) := upd_same
    generalize L2.upd HL q6 (.lst [y]) = HM at s6 e6 ⊢
    obtain ⟨rows, hrows⟩ : ∃ rows : List V, rows = (is.map fun q => V.ref q.1).take m ++ [x] ++ (is.map fun q => V.ref q.1).drop m ++ [y] := ⟨_, rfl⟩
    obtain ⟨ds, hds⟩ : ∃ ds : List PyData, ds = ((is.take m).map prV).map pD ++ db :: (((is.drop m).map prV).map pD ++ [dy]) := ⟨_, rfl⟩
    have rl : rows.length ≤ 155 := by rw [hrows]; simp only [List.length_append, List.length_take, List.length_drop, List.length_map, List.length_cons, List.length_nil]; omega
    have odI : ∀ {Hx : Hp}, But p H8 Hx → ∀ {l : List Pr}, (∀ q ∈ l, q ∈ is) → OdAll (hide p Hx) (l.map fun q => V.ref q.1) ((l.map prV).map pD) := fun {Hx} B l h => by
      induction l with
      | nil => exact .nil
      | cons q l ih => exact .cons ((od8 q (h q List.mem_cons_self)).same (But.hide B)) (ih fun r hr => h r (List.mem_cons_of_mem _ hr))
    have odR : ∀ {Hx : Hp}, But p HL Hx → OdAll (hide p Hx) rows ds := fun {Hx} B => by
      have B8 := B8L.trans B
      have t1 := odI B8 (l := is.take m) fun q hq => List.mem_of_mem_take hq
      have t2 := odI B8 (l := is.drop m) fun q hq => List.mem_of_mem_drop hq
      have ox := ob.same (But.hide (((But.of_same sEK).trans BL).trans B))
      have := odApp (odApp (odApp t1 (.cons ox .nil)) t2) (.cons (oy.same (But.hide B)) .nil)
      rw [hrows, hds, ← List.map_take, ← List.map_drop]
      simpa only [List.append_assoc, List.cons_append, List.nil_append] using this
    have smR : ∀ d ∈ ds, Sm 300 5 d := fun d hd => by
      rw [hds] at hd
      rcases List.mem_append.mp hd with hd | hd
      · obtain ⟨r, hr, rfl⟩ := List.mem_map.mp hd
        obtain ⟨q, hq, rfl⟩ := List.mem_map.mp hr
        exact smP q (List.mem_of_mem_take hq)
      · rcases List.mem_cons.mp hd with rfl | hd
        · exact smb
        · rcases List.mem_append.mp hd with hd | hd
          · obtain ⟨r, hr, rfl⟩ := List.mem_map.mp hd
            obtain ⟨q, hq, rfl⟩ := List.mem_map.mp hr
            exact smP q (List.mem_of_mem_drop hq)
          · simp only [List.mem_cons, List.not_mem_nil, or_false] at hd
            subst hd; exact bdy.sm
    have dl : ds.length ≤ 155 := by rw [← odLen (odR (Hx := HL) But.refl)]; exact rl
    have bad : badFrom ns es [] 0 ds = some m := by
      have ndT : ((is.take m).map prV).Nodup := nd.sublist ((List.take_sublist _ _).map _)
      have subT : ∀ q ∈ (is.take m).map prV, q ∈ pairsOf es := fun q hq => by
        obtain ⟨r, hr, rfl⟩ := List.mem_map.mp hq
        exact sub r (List.mem_of_mem_take hr)
      have := rec_bad asc eoS (db := db) (rest := ((is.drop m).map prV).map pD ++ [dy]) (seen := []) (i := 0) ndT subT (fun _ _ z => by cases z) (hb.imp id fun ⟨q, h, e⟩ => ⟨q, .inl h, e⟩)
      rw [hds, this, List.length_map, List.length_take]
      congr 1; omega
    refine ⟨q5, q6, _, _, rfl, rfl, s6 _ _ (BL _ _ q5p e5), e6, by rw [← List.length_append, ← hrows, sizeLine_eq]; omega, fun q7 hq7 => ?_⟩
    rw [← hrows]
    have q7p : q7 ≠ p := (SL.but s6).ne hq7
    have s7 : Same HM (L2.upd HM q7 (.lst rows)) := Same.new hq7
    have e7 : (L2.upd HM q7 (.lst rows)) q7 = some (.lst rows) := upd_same
    generalize L2.upd HM q7 (.lst rows) = HN at s7 e7 ⊢
    have BLN : But p HL HN := But.of_same (s6.trans s7)
    have SN := SL.but (s6.trans s7)
    clear hrows hds e6 e5 e4 e3 e2 e1 s6 s7 hq6 hq7 s5 hq5 s4 hq4 s3 hq3 s2 hq2 s1 hq1 oy bdy hb smb
    -- a list or a tuple
    dsimp only [gName]
    refine ifQ_k (fun σ' H' => ∃ r d, σ' = [some (.ref a), some (.int c), some (.ref p), some (.ref n), some (.ref e), some (.ref g), some (.ref kn), some (.int (0 + (j0 : Int))), some xt, some (.ref rc), some (.int (m : Int)), some x, some (.ref r), v13] ∧ Od (hide p H') (.ref r) d ∧ itD d = some ds ∧ rowB d = true ∧ Sm ((300 + 2) * ds.length + 3) (5 + 1) d ∧ But p HL H' ∧ Src H' p) ?_ (fun rest => ?_)
    rotate_left
    · refine ⟨_, rfl, p, 2, rfl, SN, by decide, by decide, fun r2 HO r20 r21 SO BO => ⟨rfl, _, rfl, ?_⟩⟩
      have BLO := BLN.trans BO
      cases decide (V.int r2 = V.int 0) with
      | false => exact iteF (rest _ _ ⟨q7, .list ds, rfl, .lst (hide_at q7p (BO _ _ q7p e7)) (odR BLO), rfl, rfl, sm_lst smR, BLO, SO⟩)
      | true =>
        refine iteT ⟨_, rfl, q7, _, rfl, .inl ⟨SqL.of (BO _ _ q7p e7), fun t ht => rest _ _ ⟨t, .tuple ds, rfl, .tup (hide_at (SO.ne ht) upd_same) (odR (BLO.trans (But.new ht))), rfl, rfl, sm_tup smR, BLO.trans (But.new ht), SO.but (Same.new ht)⟩⟩⟩
    clear e7 q7p SN BLN
    rintro σ HP ⟨r, d, rfl, od, it, rb, sm, BP, SP⟩
    have od := od.same hide_same
    have small : d.shown.length ≤ sizeLine := by have := sm.len; rw [sizeLine_eq]; omega
    refine ⟨_, rfl, r, d, rfl, od, rb, sm.sh, Nat.le_trans sm.dep (by decide), small, ?_⟩
    have B6P := B68.trans (B8L.trans BP)
    have GP := G6.but S6 B6P
    have recb : recBad ns ((sortE ks).map (·.2)) d = some (m : Int) := by unfold recBad; rw [it, hes]; dsimp only; rw [bad]; rfl
    refine ⟨_, rfl, _, rfl, g, ns, sortE ks, _, d, m, rfl, GP, gok', .inl od, (fun zs h => by rw [it] at h; obtain rfl := Option.some.inj h; omega), recb, fun t1 HQ ht1 et1 sq => ?_⟩
    refine ⟨_, rfl, by show 2 ≤ sizeLine; decide, fun t2 ht2 => ?_⟩
    have se : Same HQ (L2.upd HQ t2 (.tup [.str "no record", .int (m : Int)])) := Same.new ht2
    have ee : (L2.upd HQ t2 (.tup [.str "no record", .int (m : Int)])) t2 = some (.tup [.str "no record", .int (m : Int)]) := upd_same
    generalize L2.upd HQ t2 (.tup [.str "no record", .int (m : Int)]) = HR at se ee ⊢
    refine ⟨_, _, said_dp (se _ _ et1), said_dp ee, said_shaped _, said_shaped _, _, rfl, ?_⟩
    rw [said_eqv]
    have sPR := sq.trans se
    refine iteF ⟨_, rfl, r, d, rfl, od.same sPR, rb, sm.sh, Nat.le_trans sm.dep (by decide), small, ?_⟩
    refine ⟨_, rfl, rfl, _, rfl, ?_⟩
    rw [decide_eq_true rfl]
    exact iteF ⟨⟨_, _, _, _, _, _, _, rfl⟩, B6P.trans (But.of_same sPR), SP.but sPR⟩
end
end CP
namespace CP
open PySem L2
theorem exm_two {K : PySem.W.Frag} {A S : Addr} {r : Bool} {cd : ClassData} (b : PySem.W.subIn K (.ref S) (.type "BaseException") = some true) (c : PySem.W.clsIn K S = some cd) (t : PySem.W.typeIn K (.ref S) = some (.type "type")) (cA : ∃ cd, PySem.W.clsIn K A = some cd) (tA : PySem.W.typeIn K (.ref A) = some (.type "type")) (s : PySem.W.subIn K (.ref A) (.ref S) = some r) : PySem.W.exmOne K (.ref A) (.ref S) = some r := by
  obtain ⟨cdA, cA⟩ := cA
  have b' : (PySem.W.subIn K (.ref S) (.type "BaseException") == some true) = true := by rw [b]; rfl
  have t' : ((PySem.W.clsIn K S).isSome && PySem.W.typeIn K (.ref S) == some (.type "type")) = true := by rw [c, t]; rfl
  have tA' : ((PySem.W.clsIn K A).isSome && PySem.W.typeIn K (.ref A) == some (.type "type")) = true := by rw [cA, tA]; rfl
  first
    | (have q : PySem.W.exmOne K (.ref A) (.ref S) = if (PySem.W.subIn K (.ref S) (.type "BaseException") == some true) = true then (if ((PySem.W.clsIn K S).isSome && PySem.W.typeIn K (.ref S) == some (.type "type")) = true then PySem.W.subIn K (.ref A) (.ref S) else none) else none := rfl
       rw [q, if_pos b', if_pos t']; exact s)
    | (have q : PySem.W.exmOne K (.ref A) (.ref S) = if (PySem.W.subIn K (.ref S) (.type "BaseException") == some true) = true then (if ((PySem.W.clsIn K A).isSome && PySem.W.typeIn K (.ref A) == some (.type "type")) = true then PySem.W.subIn K (.ref A) (.ref S) else none) else none := rfl
       rw [q, if_pos b', if_pos tA']; exact s)
set_option maxHeartbeats 4000000 in
theorem all_mk {l : PySem.W.OpenLaw} {w : World} {K : PySem.W.Frag} {h : Heap} {mg : Str → Option Value} {fa C Cr Cn B Cc Cd Ce Cg Cw fAp fRo fCo fNa fVe fEg fAm fJo fIe fIp fCk fPa fOd fAl fCv fLe fDw fCt fDr fCa fSo fNe fOn fMi fGr fLp fSu fSa fBp fLa fIn fI1 : Addr} (X : K.In h) (G : h.Ns mainGlobals mg) (hfa : mg "law" = some (.ref fa))
    {odAp anAp odRo anRo odCo anCo odNa anNa odVe anVe odEg anEg odAm anAm odJo anJo odIe anIe odIp anIp odCk anCk odPa anPa odOd anOd odAl anAl odCv anCv odLe anLe odDw anDw odCt anCt odDr anDr odCa anCa odSo anSo odNe anNe odOn anOn odMi anMi odGr anGr odLp anLp odSu anSu odSa anSa odBp anBp odLa anLa odIn anIn odI1 anI1 : Option Addr} {slAp slRo slCo slNa slVe slEg slAm slJo slIe slIp slCk slPa slOd slAl slCv slLe slDw slCt slDr slCa slSo slNe slOn slMi slGr slLp slSu slSa slBp slLa slIn slI1 : Array (Option Value)} {ocAp kVAp dcAp pmAp cdAp ctAp ocRo kVRo dcRo pmRo cdRo ctRo ocCo kVCo dcCo pmCo cdCo ctCo ocNa kVNa dcNa pmNa cdNa ctNa ocVe kVVe dcVe pmVe cdVe ctVe ocEg kVEg dcEg pmEg cdEg ctEg ocAm kVAm dcAm pmAm cdAm ctAm ocJo kVJo dcJo pmJo cdJo ctJo ocIe kVIe dcIe pmIe cdIe ctIe ocIp kVIp dcIp pmIp cdIp ctIp ocCk kVCk dcCk pmCk cdCk ctCk ocPa kVPa dcPa pmPa cdPa ctPa ocOd kVOd dcOd pmOd cdOd ctOd ocAl kVAl dcAl pmAl cdAl ctAl ocCv kVCv dcCv pmCv cdCv ctCv ocLe kVLe dcLe pmLe cdLe ctLe ocDw kVDw dcDw pmDw cdDw ctDw ocCt kVCt dcCt pmCt cdCt ctCt ocDr kVDr dcDr pmDr cdDr ctDr ocCa kVCa dcCa pmCa cdCa ctCa ocSo kVSo dcSo pmSo cdSo ctSo ocNe kVNe dcNe pmNe cdNe ctNe ocOn kVOn dcOn pmOn cdOn ctOn ocMi kVMi dcMi pmMi cdMi ctMi ocGr kVGr dcGr pmGr cdGr ctGr ocLp kVLp dcLp pmLp cdLp ctLp ocSu kVSu dcSu pmSu cdSu ctSu ocSa kVSa dcSa pmSa cdSa ctSa ocBp kVBp dcBp pmBp cdBp ctBp ocLa kVLa dcLa pmLa cdLa ctLa ocIn kVIn dcIn pmIn cdIn ctIn ocI1 kVI1 dcI1 pmI1 cdI1 ctI1 : Value} {t0 t1 t2 t3 : Tok}
    {cdtB : ClassData}
    {nm1 q1 : Str} {N1 : Addr} {bs1 bm1 sub1 : List Value} {sn1 : List Str} {ab1 : Bool} {col1 : Option Bool} {dd1 : Option Addr} {k0_1 k1_1 k2_1 k3_1 k5_1 : Option Value} {cdt1 : ClassData}
    (aC : PySem.W.nsIn K mainGlobals "Graph" = some (some (.ref C)))
    (a_Cr : PySem.W.nsIn K mainGlobals "NoRecord" = some (some (.ref Cr)))
    (a_Cn : PySem.W.nsIn K mainGlobals "NoOrder" = some (some (.ref Cn)))
    (a_B : PySem.W.nsIn K mainGlobals "ParityError" = some (some (.ref B)))
    (a_Cc : PySem.W.nsIn K mainGlobals "NoCarry" = some (some (.ref Cc)))
    (a_Cd : PySem.W.nsIn K mainGlobals "NoDrawing" = some (some (.ref Cd)))
    (a_Ce : PySem.W.nsIn K mainGlobals "NoEdge" = some (some (.ref Ce)))
    (a_Cg : PySem.W.nsIn K mainGlobals "NoGraph" = some (some (.ref Cg)))
    (a_Cw : PySem.W.nsIn K mainGlobals "NotDrawable" = some (some (.ref Cw)))
    (aAp : PySem.W.nsIn K mainGlobals "are_apart" = some (some (.ref fAp)))
    (lAp : K.lookup fAp = some ⟨ocAp, odAp, .func (PySem.W.fnOf "are_apart" "are_apart" (defArgs sApart) (defBody sApart) (defScope sApart) .none kVAp dcAp pmAp anAp cdAp ctAp), slAp⟩)
    (cAp : PySem.W.codeIn K cdAp "are_apart" = true)
    (kAp : PySem.W.keepIn K (.ref fAp) = true)
    (aRo : PySem.W.nsIn K mainGlobals "is_row" = some (some (.ref fRo)))
    (lRo : K.lookup fRo = some ⟨ocRo, odRo, .func (PySem.W.fnOf "is_row" "is_row" (defArgs sRow) (defBody sRow) (defScope sRow) .none kVRo dcRo pmRo anRo cdRo ctRo), slRo⟩)
    (cRo : PySem.W.codeIn K cdRo "is_row" = true)
    (kRo : PySem.W.keepIn K (.ref fRo) = true)
    (aCo : PySem.W.nsIn K mainGlobals "is_couple" = some (some (.ref fCo)))
    (lCo : K.lookup fCo = some ⟨ocCo, odCo, .func (PySem.W.fnOf "is_couple" "is_couple" (defArgs sCouple) (defBody sCouple) (defScope sCouple) .none kVCo dcCo pmCo anCo cdCo ctCo), slCo⟩)
    (cCo : PySem.W.codeIn K cdCo "is_couple" = true)
    (kCo : PySem.W.keepIn K (.ref fCo) = true)
    (aNa : PySem.W.nsIn K mainGlobals "is_name" = some (some (.ref fNa)))
    (lNa : K.lookup fNa = some ⟨ocNa, odNa, .func (PySem.W.fnOf "is_name" "is_name" (defArgs sName) (defBody sName) (defScope sName) .none kVNa dcNa pmNa anNa cdNa ctNa), slNa⟩)
    (cNa : PySem.W.codeIn K cdNa "is_name" = true)
    (kNa : PySem.W.keepIn K (.ref fNa) = true)
    (aVe : PySem.W.nsIn K mainGlobals "are_vertices" = some (some (.ref fVe)))
    (lVe : K.lookup fVe = some ⟨ocVe, odVe, .func (PySem.W.fnOf "are_vertices" "are_vertices" (defArgs sVerts) (defBody sVerts) (defScope sVerts) .none kVVe dcVe pmVe anVe cdVe ctVe), slVe⟩)
    (cVe : PySem.W.codeIn K cdVe "are_vertices" = true)
    (kVe : PySem.W.keepIn K (.ref fVe) = true)
    (aEg : PySem.W.nsIn K mainGlobals "are_edges" = some (some (.ref fEg)))
    (lEg : K.lookup fEg = some ⟨ocEg, odEg, .func (PySem.W.fnOf "are_edges" "are_edges" (defArgs sEdges) (defBody sEdges) (defScope sEdges) .none kVEg dcEg pmEg anEg cdEg ctEg), slEg⟩)
    (cEg : PySem.W.codeIn K cdEg "are_edges" = true)
    (kEg : PySem.W.keepIn K (.ref fEg) = true)
    (aAm : PySem.W.nsIn K mainGlobals "is_among" = some (some (.ref fAm)))
    (lAm : K.lookup fAm = some ⟨ocAm, odAm, .func (PySem.W.fnOf "is_among" "is_among" (defArgs sAmong) (defBody sAmong) (defScope sAmong) .none kVAm dcAm pmAm anAm cdAm ctAm), slAm⟩)
    (cAm : PySem.W.codeIn K cdAm "is_among" = true)
    (kAm : PySem.W.keepIn K (.ref fAm) = true)
    (aJo : PySem.W.nsIn K mainGlobals "joins" = some (some (.ref fJo)))
    (lJo : K.lookup fJo = some ⟨ocJo, odJo, .func (PySem.W.fnOf "joins" "joins" (defArgs sJoins) (defBody sJoins) (defScope sJoins) .none kVJo dcJo pmJo anJo cdJo ctJo), slJo⟩)
    (cJo : PySem.W.codeIn K cdJo "joins" = true)
    (kJo : PySem.W.keepIn K (.ref fJo) = true)
    (aIe : PySem.W.nsIn K mainGlobals "is_edge" = some (some (.ref fIe)))
    (lIe : K.lookup fIe = some ⟨ocIe, odIe, .func (PySem.W.fnOf "is_edge" "is_edge" (defArgs sIsEdge) (defBody sIsEdge) (defScope sIsEdge) .none kVIe dcIe pmIe anIe cdIe ctIe), slIe⟩)
    (cIe : PySem.W.codeIn K cdIe "is_edge" = true)
    (kIe : PySem.W.keepIn K (.ref fIe) = true)
    (aIp : PySem.W.nsIn K mainGlobals "is_pair" = some (some (.ref fIp)))
    (lIp : K.lookup fIp = some ⟨ocIp, odIp, .func (PySem.W.fnOf "is_pair" "is_pair" (defArgs sIsPair) (defBody sIsPair) (defScope sIsPair) .none kVIp dcIp pmIp anIp cdIp ctIp), slIp⟩)
    (cIp : PySem.W.codeIn K cdIp "is_pair" = true)
    (kIp : PySem.W.keepIn K (.ref fIp) = true)
    (aCk : PySem.W.nsIn K mainGlobals "check_record" = some (some (.ref fCk)))
    (lCk : K.lookup fCk = some ⟨ocCk, odCk, .func (PySem.W.fnOf "check_record" "check_record" (defArgs sCheckR) (defBody sCheckR) (defScope sCheckR) .none kVCk dcCk pmCk anCk cdCk ctCk), slCk⟩)
    (cCk : PySem.W.codeIn K cdCk "check_record" = true)
    (kCk : PySem.W.keepIn K (.ref fCk) = true)
    (aPa : PySem.W.nsIn K mainGlobals "pairs" = some (some (.ref fPa)))
    (lPa : K.lookup fPa = some ⟨ocPa, odPa, .func (PySem.W.fnOf "pairs" "pairs" (defArgs sPairs) (defBody sPairs) (defScope sPairs) .none kVPa dcPa pmPa anPa cdPa ctPa), slPa⟩)
    (cPa : PySem.W.codeIn K cdPa "pairs" = true)
    (kPa : PySem.W.keepIn K (.ref fPa) = true)
    (aOd : PySem.W.nsIn K mainGlobals "is_order" = some (some (.ref fOd)))
    (lOd : K.lookup fOd = some ⟨ocOd, odOd, .func (PySem.W.fnOf "is_order" "is_order" (defArgs sOrder) (defBody sOrder) (defScope sOrder) .none kVOd dcOd pmOd anOd cdOd ctOd), slOd⟩)
    (cOd : PySem.W.codeIn K cdOd "is_order" = true)
    (kOd : PySem.W.keepIn K (.ref fOd) = true)
    (aAl : PySem.W.nsIn K mainGlobals "alternates" = some (some (.ref fAl)))
    (lAl : K.lookup fAl = some ⟨ocAl, odAl, .func (PySem.W.fnOf "alternates" "alternates" (defArgs sAlt) (defBody sAlt) (defScope sAlt) .none kVAl dcAl pmAl anAl cdAl ctAl), slAl⟩)
    (cAl : PySem.W.codeIn K cdAl "alternates" = true)
    (kAl : PySem.W.keepIn K (.ref fAl) = true)
    (aCv : PySem.W.nsIn K mainGlobals "convex" = some (some (.ref fCv)))
    (lCv : K.lookup fCv = some ⟨ocCv, odCv, .func (PySem.W.fnOf "convex" "convex" (defArgs sConvex) (defBody sConvex) (defScope sConvex) .none kVCv dcCv pmCv anCv cdCv ctCv), slCv⟩)
    (cCv : PySem.W.codeIn K cdCv "convex" = true)
    (kCv : PySem.W.keepIn K (.ref fCv) = true)
    (aLe : PySem.W.nsIn K mainGlobals "leading" = some (some (.ref fLe)))
    (lLe : K.lookup fLe = some ⟨ocLe, odLe, .func (PySem.W.fnOf "leading" "leading" (defArgs sLeading) (defBody sLeading) (defScope sLeading) .none kVLe dcLe pmLe anLe cdLe ctLe), slLe⟩)
    (cLe : PySem.W.codeIn K cdLe "leading" = true)
    (kLe : PySem.W.keepIn K (.ref fLe) = true)
    (aDw : PySem.W.nsIn K mainGlobals "drawable" = some (some (.ref fDw)))
    (lDw : K.lookup fDw = some ⟨ocDw, odDw, .func (PySem.W.fnOf "drawable" "drawable" (defArgs sDrawable) (defBody sDrawable) (defScope sDrawable) .none kVDw dcDw pmDw anDw cdDw ctDw), slDw⟩)
    (cDw : PySem.W.codeIn K cdDw "drawable" = true)
    (kDw : PySem.W.keepIn K (.ref fDw) = true)
    (aCt : PySem.W.nsIn K mainGlobals "carries_to" = some (some (.ref fCt)))
    (lCt : K.lookup fCt = some ⟨ocCt, odCt, .func (PySem.W.fnOf "carries_to" "carries_to" (defArgs sCarriesTo) (defBody sCarriesTo) (defScope sCarriesTo) .none kVCt dcCt pmCt anCt cdCt ctCt), slCt⟩)
    (cCt : PySem.W.codeIn K cdCt "carries_to" = true)
    (kCt : PySem.W.keepIn K (.ref fCt) = true)
    (aDr : PySem.W.nsIn K mainGlobals "draw" = some (some (.ref fDr)))
    (lDr : K.lookup fDr = some ⟨ocDr, odDr, .func (PySem.W.fnOf "draw" "draw" (defArgs sDraw) (defBody sDraw) (defScope sDraw) .none kVDr dcDr pmDr anDr cdDr ctDr), slDr⟩)
    (cDr : PySem.W.codeIn K cdDr "draw" = true)
    (kDr : PySem.W.keepIn K (.ref fDr) = true)
    (aCa : PySem.W.nsIn K mainGlobals "_law_cell_at" = some (some (.ref fCa)))
    (lCa : K.lookup fCa = some ⟨ocCa, odCa, .func (PySem.W.fnOf "_law_cell_at" "_law_cell_at" (defArgs sCell) (defBody sCell) (defScope sCell) .none kVCa dcCa pmCa anCa cdCa ctCa), slCa⟩)
    (cCa : PySem.W.codeIn K cdCa "_law_cell_at" = true)
    (kCa : PySem.W.keepIn K (.ref fCa) = true)
    (aSo : PySem.W.nsIn K mainGlobals "_law_source_of" = some (some (.ref fSo)))
    (lSo : K.lookup fSo = some ⟨ocSo, odSo, .func (PySem.W.fnOf "_law_source_of" "_law_source_of" (defArgs sSource) (defBody sSource) (defScope sSource) .none kVSo dcSo pmSo anSo cdSo ctSo), slSo⟩)
    (cSo : PySem.W.codeIn K cdSo "_law_source_of" = true)
    (kSo : PySem.W.keepIn K (.ref fSo) = true)
    (aNe : PySem.W.nsIn K mainGlobals "_law_next" = some (some (.ref fNe)))
    (lNe : K.lookup fNe = some ⟨ocNe, odNe, .func (PySem.W.fnOf "_law_next" "_law_next" (defArgs sNext) (defBody sNext) (defScope sNext) .none kVNe dcNe pmNe anNe cdNe ctNe), slNe⟩)
    (cNe : PySem.W.codeIn K cdNe "_law_next" = true)
    (kNe : PySem.W.keepIn K (.ref fNe) = true)
    (aOn : PySem.W.nsIn K mainGlobals "_law_one" = some (some (.ref fOn)))
    (lOn : K.lookup fOn = some ⟨ocOn, odOn, .func (PySem.W.fnOf "_law_one" "_law_one" (defArgs sOne) (defBody sOne) (defScope sOne) .none kVOn dcOn pmOn anOn cdOn ctOn), slOn⟩)
    (cOn : PySem.W.codeIn K cdOn "_law_one" = true)
    (kOn : PySem.W.keepIn K (.ref fOn) = true)
    (aMi : PySem.W.nsIn K mainGlobals "_law_mixed" = some (some (.ref fMi)))
    (lMi : K.lookup fMi = some ⟨ocMi, odMi, .func (PySem.W.fnOf "_law_mixed" "_law_mixed" (defArgs sMixed) (defBody sMixed) (defScope sMixed) .none kVMi dcMi pmMi anMi cdMi ctMi), slMi⟩)
    (cMi : PySem.W.codeIn K cdMi "_law_mixed" = true)
    (kMi : PySem.W.keepIn K (.ref fMi) = true)
    (aGr : PySem.W.nsIn K mainGlobals "_law_graph" = some (some (.ref fGr)))
    (lGr : K.lookup fGr = some ⟨ocGr, odGr, .func (PySem.W.fnOf "_law_graph" "_law_graph" (defArgs sGraph) (defBody sGraph) (defScope sGraph) .none kVGr dcGr pmGr anGr cdGr ctGr), slGr⟩)
    (cGr : PySem.W.codeIn K cdGr "_law_graph" = true)
    (kGr : PySem.W.keepIn K (.ref fGr) = true)
    (aLp : PySem.W.nsIn K mainGlobals "_law_pairs" = some (some (.ref fLp)))
    (lLp : K.lookup fLp = some ⟨ocLp, odLp, .func (PySem.W.fnOf "_law_pairs" "_law_pairs" (defArgs sLawPairs) (defBody sLawPairs) (defScope sLawPairs) .none kVLp dcLp pmLp anLp cdLp ctLp), slLp⟩)
    (cLp : PySem.W.codeIn K cdLp "_law_pairs" = true)
    (kLp : PySem.W.keepIn K (.ref fLp) = true)
    (aSu : PySem.W.nsIn K mainGlobals "_law_subset" = some (some (.ref fSu)))
    (lSu : K.lookup fSu = some ⟨ocSu, odSu, .func (PySem.W.fnOf "_law_subset" "_law_subset" (defArgs sSubset) (defBody sSubset) (defScope sSubset) .none kVSu dcSu pmSu anSu cdSu ctSu), slSu⟩)
    (cSu : PySem.W.codeIn K cdSu "_law_subset" = true)
    (kSu : PySem.W.keepIn K (.ref fSu) = true)
    (aSa : PySem.W.nsIn K mainGlobals "_law_said" = some (some (.ref fSa)))
    (lSa : K.lookup fSa = some ⟨ocSa, odSa, .func (PySem.W.fnOf "_law_said" "_law_said" (defArgs sSaid) (defBody sSaid) (defScope sSaid) .none kVSa dcSa pmSa anSa cdSa ctSa), slSa⟩)
    (cSa : PySem.W.codeIn K cdSa "_law_said" = true)
    (kSa : PySem.W.keepIn K (.ref fSa) = true)
    (aBp : PySem.W.nsIn K mainGlobals "_law_bad_pair" = some (some (.ref fBp)))
    (lBp : K.lookup fBp = some ⟨ocBp, odBp, .func (PySem.W.fnOf "_law_bad_pair" "_law_bad_pair" (defArgs sBad) (defBody sBad) (defScope sBad) .none kVBp dcBp pmBp anBp cdBp ctBp), slBp⟩)
    (cBp : PySem.W.codeIn K cdBp "_law_bad_pair" = true)
    (kBp : PySem.W.keepIn K (.ref fBp) = true)
    (aLa : PySem.W.nsIn K mainGlobals "law" = some (some (.ref fLa)))
    (lLa : K.lookup fLa = some ⟨ocLa, odLa, .func (PySem.W.fnOf "law" "law" (defArgs sLaw) (defBody sLaw) (defScope sLaw) .none kVLa dcLa pmLa anLa cdLa ctLa), slLa⟩)
    (cLa : PySem.W.codeIn K cdLa "law" = true)
    (kLa : PySem.W.keepIn K (.ref fLa) = true)
    (aIn : PySem.W.findIn K (.ref C) "__init__" = some (some (.ref fIn)))
    (iIn : PySem.W.isFn K (.ref fIn) = true)
    (lIn : K.lookup fIn = some ⟨ocIn, odIn, .func (PySem.W.fnOf "__init__" "Graph.__init__" (defArgs sInit) (defBody sInit) (defScope sInit) .none kVIn dcIn pmIn anIn cdIn ctIn), slIn⟩)
    (cIn : PySem.W.codeIn K cdIn "Graph.__init__" = true)
    (kIn : PySem.W.keepIn K (.ref fIn) = true)
    (aI1 : PySem.W.findIn K (.ref Cr) "__init__" = some (some (.ref fI1)))
    (tI1 : PySem.W.typeIn K (.ref fI1) = some (.type "function"))
    (lI1 : K.lookup fI1 = some ⟨ocI1, odI1, .func (PySem.W.fnOf "__init__" "NoRecord.__init__" (defArgs sI1) (defBody sI1) (defScope sI1) .none kVI1 dcI1 pmI1 anI1 cdI1 ctI1), slI1⟩)
    (cI1 : PySem.W.codeIn K cdI1 "NoRecord.__init__" = true)
    (kI1 : PySem.W.keepIn K (.ref fI1) = true)
    (pgC : PySem.W.plainGet K C Str.empty = true)
    (hdC : PySem.W.hasDictIn K C = true)
    (poC : PySem.W.plainOver K C = true)
    (saC : PySem.W.findIn K (.ref C) "__setattr__" = some (some (.builtin "object.__setattr__")))
    (mkC : PySem.W.makesIn K C = true)
    (kcC : PySem.W.keepIn K (.ref C) = true)
    (nV : PySem.W.findIn K (.ref C) "vertices" = some none)
    (nE : PySem.W.findIn K (.ref C) "edges" = some none)
    (caC : PySem.W.findIn K (.ref C) "__class__" = some (some (.builtin "object.__class__")))
    (moC : PySem.W.mroIn K C (.type "object") = some true)
    (kTl : PySem.W.kitOne K (.ref C) (.type "list") = some false)
    (kTt : PySem.W.kitOne K (.ref C) (.type "tuple") = some false)
    (ox1 : K.lookup Cr = some (PySem.excClassObj nm1 q1 Cr N1 bs1 bm1 true sn1 sub1 ab1 col1 dd1 k0_1 k1_1 k2_1 k3_1 k5_1 "ValueError.__new__"))
    (rv1 : PySem.HandSPX.refsVE bm1 = true)
    (sa1 : PySem.W.findIn K (.ref Cr) "__setattr__" = some (some (.builtin "object.__setattr__")))
    (ty1 : PySem.W.typeIn K (.ref Cr) = some (.type "type"))
    (kp1 : PySem.W.keepIn K (.ref Cr) = true)
    (fn1 : PySem.W.findIn K (.ref Cr) "at" = some none)
    (xcl1 : PySem.W.clsIn K Cr = some cdt1)
    (xga1 : PySem.W.findIn K (.ref Cr) "__getattribute__" = some (some (.builtin "BaseException.__getattribute__")))
    (xgg1 : PySem.W.findIn K (.ref Cr) "__getattr__" = some none)
    (xsb1 : PySem.W.subIn K (.ref Cr) (.type "BaseException") = some true)
    (xhd1 : PySem.W.hasDictIn K Cr = true)
    (xca1 : PySem.W.findIn K (.ref Cr) "__class__" = some (some (.builtin "object.__class__")))
    (xmo1 : PySem.W.mroIn K Cr (.type "object") = some true)
    (xss1 : PySem.W.subIn K (.ref Cr) (.ref Cr) = some true)
    (sg : PySem.W.specialIn K (.builtin "object.__class__") "__get__" = some (some (.builtin "getset_descriptor.__get__")))
    (tk : PySem.W.takesIn K (.builtin "object.__class__") = some true)
    (ex2 : PySem.W.excIn K Cn veB "ValueError.__new__" = true)
    (ty2 : PySem.W.typeIn K (.ref Cn) = some (.type "type"))
    (kp2 : PySem.W.keepIn K (.ref Cn) = true)
    (xs2 : PySem.W.subIn K (.ref Cn) (.type "BaseException") = some true)
    (bsb : PySem.W.subIn K (.ref B) (.type "BaseException") = some true)
    (bcl : PySem.W.clsIn K B = some cdtB)
    (bty : PySem.W.typeIn K (.ref B) = some (.type "type"))
    (rsb : PySem.W.subIn K (.ref Cr) (.ref B) = some true)
    (kRR : PySem.W.kitOne K (.ref Cr) (.ref Cr) = some true)
    (kRCc : PySem.W.kitOne K (.ref Cr) (.ref Cc) = some false)
    (kRCd : PySem.W.kitOne K (.ref Cr) (.ref Cd) = some false)
    (kRCe : PySem.W.kitOne K (.ref Cr) (.ref Ce) = some false)
    (kRCg : PySem.W.kitOne K (.ref Cr) (.ref Cg) = some false)
    (kRCw : PySem.W.kitOne K (.ref Cr) (.ref Cw) = some false)
    (z_len : PySem.W.nsIn K mainGlobals "len" = some none)
    (z_int : PySem.W.nsIn K mainGlobals "int" = some none)
    (z_list : PySem.W.nsIn K mainGlobals "list" = some none)
    (z_tuple : PySem.W.nsIn K mainGlobals "tuple" = some none)
    (z_isinstance : PySem.W.nsIn K mainGlobals "isinstance" = some none)
    (z_str : PySem.W.nsIn K mainGlobals "str" = some none)
    (z_all : PySem.W.nsIn K mainGlobals "all" = some none)
    (z_set : PySem.W.nsIn K mainGlobals "set" = some none)
    (z_sorted : PySem.W.nsIn K mainGlobals "sorted" = some none)
    (z_enumerate : PySem.W.nsIn K mainGlobals "enumerate" = some none)
    (z_min : PySem.W.nsIn K mainGlobals "min" = some none)
    (z_repr : PySem.W.nsIn K mainGlobals "repr" = some none)
    (z_range : PySem.W.nsIn K mainGlobals "range" = some none)
    (z_zip : PySem.W.nsIn K mainGlobals "zip" = some none)
    (x_LETTERS : PySem.W.nsIn K mainGlobals "LETTERS" = some (some (.str letters t0)))
    (x_LONGEST_NAME : PySem.W.nsIn K mainGlobals "LONGEST_NAME" = some (some (.int 8 t1)))
    (x_MOST_VERTICES : PySem.W.nsIn K mainGlobals "MOST_VERTICES" = some (some (.int 8 t2)))
    (x_MOST_EDGES : PySem.W.nsIn K mainGlobals "MOST_EDGES" = some (some (.int 18 t3))) :
    ∃ fd : FuncData, (∀ (s : Shared) (v : Value), BindsTo s fd ⟨[v], []⟩ [("_law_script", v)]) ∧ ∀ base : Heap, K.In base → base.Ns mainGlobals mg → FnG l.prog w K mg base 11 fa fd ["_law_script"] (spLaw K) := by
  have e := hfa.symm.trans (PySem.W.mg_of X G aLa)
  cases e
  have T : GTxt K mg C := ⟨⟨pgC, hdC, poC, saC⟩, nV, nE, PySem.W.mg_of X G aC⟩
  have FAp := fun_mk (st := sApart) lAp cAp kAp
  have bAp := FAp.binds (ps := ["one", "other"]) fun _ _ _ _ _ _ us hl => match us, hl with | [_, _], _ => rfl
  have mAp := PySem.W.mg_of X G aAp
  have FRo := fun_mk (st := sRow) lRo cRo kRo
  have bRo := FRo.binds (ps := ["value"]) fun _ _ _ _ _ _ us hl => match us, hl with | [_], _ => rfl
  have mRo := PySem.W.mg_of X G aRo
  have FCo := fun_mk (st := sCouple) lCo cCo kCo
  have bCo := FCo.binds (ps := ["value"]) fun _ _ _ _ _ _ us hl => match us, hl with | [_], _ => rfl
  have mCo := PySem.W.mg_of X G aCo
  have FNa := fun_mk (st := sName) lNa cNa kNa
  have bNa := FNa.binds (ps := ["value"]) fun _ _ _ _ _ _ us hl => match us, hl with | [_], _ => rfl
  have mNa := PySem.W.mg_of X G aNa
  have FVe := fun_mk (st := sVerts) lVe cVe kVe
  have bVe := FVe.binds (ps := ["value"]) fun _ _ _ _ _ _ us hl => match us, hl with | [_], _ => rfl
  have mVe := PySem.W.mg_of X G aVe
  have FEg := fun_mk (st := sEdges) lEg cEg kEg
  have bEg := FEg.binds (ps := ["vertices", "value"]) fun _ _ _ _ _ _ us hl => match us, hl with | [_, _], _ => rfl
  have mEg := PySem.W.mg_of X G aEg
  have FAm := fun_mk (st := sAmong) lAm cAm kAm
  have bAm := FAm.binds (ps := ["vertices", "value"]) fun _ _ _ _ _ _ us hl => match us, hl with | [_, _], _ => rfl
  have mAm := PySem.W.mg_of X G aAm
  have FJo := fun_mk (st := sJoins) lJo cJo kJo
  have bJo := FJo.binds (ps := ["vertices", "value"]) fun _ _ _ _ _ _ us hl => match us, hl with | [_, _], _ => rfl
  have mJo := PySem.W.mg_of X G aJo
  have FIe := fun_mk (st := sIsEdge) lIe cIe kIe
  have bIe := FIe.binds (ps := ["graph", "value"]) fun _ _ _ _ _ _ us hl => match us, hl with | [_, _], _ => rfl
  have mIe := PySem.W.mg_of X G aIe
  have FIp := fun_mk (st := sIsPair) lIp cIp kIp
  have bIp := FIp.binds (ps := ["graph", "value"]) fun _ _ _ _ _ _ us hl => match us, hl with | [_, _], _ => rfl
  have mIp := PySem.W.mg_of X G aIp
  have FCk := fun_mk (st := sCheckR) lCk cCk kCk
  have bCk := FCk.binds (ps := ["graph", "value"]) fun _ _ _ _ _ _ us hl => match us, hl with | [_, _], _ => rfl
  have mCk := PySem.W.mg_of X G aCk
  have FPa := fun_mk (st := sPairs) lPa cPa kPa
  have bPa := FPa.binds (ps := ["graph"]) fun _ _ _ _ _ _ us hl => match us, hl with | [_], _ => rfl
  have mPa := PySem.W.mg_of X G aPa
  have FOd := fun_mk (st := sOrder) lOd cOd kOd
  have bOd := FOd.binds (ps := ["graph", "value"]) fun _ _ _ _ _ _ us hl => match us, hl with | [_, _], _ => rfl
  have mOd := PySem.W.mg_of X G aOd
  have FAl := fun_mk (st := sAlt) lAl cAl kAl
  have bAl := FAl.binds (ps := ["places", "pair"]) fun _ _ _ _ _ _ us hl => match us, hl with | [_, _], _ => rfl
  have mAl := PySem.W.mg_of X G aAl
  have FCv := fun_mk (st := sConvex) lCv cCv kCv
  have bCv := FCv.binds (ps := ["graph", "order"]) fun _ _ _ _ _ _ us hl => match us, hl with | [_, _], _ => rfl
  have mCv := PySem.W.mg_of X G aCv
  have FLe := fun_mk (st := sLeading) lLe cLe kLe
  have bLe := FLe.binds (ps := ["graph", "one", "other"]) fun _ _ _ _ _ _ us hl => match us, hl with | [_, _, _], _ => rfl
  have mLe := PySem.W.mg_of X G aLe
  have FDw := fun_mk (st := sDrawable) lDw cDw kDw
  have bDw := FDw.binds (ps := ["graph", "record"]) fun _ _ _ _ _ _ us hl => match us, hl with | [_, _], _ => rfl
  have mDw := PySem.W.mg_of X G aDw
  have FCt := fun_mk (st := sCarriesTo) lCt cCt kCt
  have bCt := FCt.binds (ps := ["graph", "record"]) fun _ _ _ _ _ _ us hl => match us, hl with | [_, _], _ => rfl
  have mCt := PySem.W.mg_of X G aCt
  have FDr := fun_mk (st := sDraw) lDr cDr kDr
  have bDr := FDr.binds (ps := ["graph", "record"]) fun _ _ _ _ _ _ us hl => match us, hl with | [_, _], _ => rfl
  have mDr := PySem.W.mg_of X G aDr
  have FCa := fun_mk (st := sCell) lCa cCa kCa
  have bCa := FCa.binds (ps := ["_law_script", "_law_k"]) fun _ _ _ _ _ _ us hl => match us, hl with | [_, _], _ => rfl
  have mCa := PySem.W.mg_of X G aCa
  have FSo := fun_mk (st := sSource) lSo cSo kSo
  have bSo := FSo.binds (ps := ["_law_cell"]) fun _ _ _ _ _ _ us hl => match us, hl with | [_], _ => rfl
  have mSo := PySem.W.mg_of X G aSo
  have FNe := fun_mk (st := sNext) lNe cNe kNe
  have bNe := FNe.binds (ps := ["_law_source", "_law_many"]) fun _ _ _ _ _ _ us hl => match us, hl with | [_, _], _ => rfl
  have mNe := PySem.W.mg_of X G aNe
  have FOn := fun_mk (st := sOne) lOn cOn kOn
  have bOn := FOn.binds (ps := ["_law_source", "_law_some"]) fun _ _ _ _ _ _ us hl => match us, hl with | [_, _], _ => rfl
  have mOn := PySem.W.mg_of X G aOn
  have FMi := fun_mk (st := sMixed) lMi cMi kMi
  have bMi := FMi.binds (ps := ["_law_source", "_law_some"]) fun _ _ _ _ _ _ us hl => match us, hl with | [_, _], _ => rfl
  have mMi := PySem.W.mg_of X G aMi
  have FGr := fun_mk (st := sGraph) lGr cGr kGr
  have bGr := FGr.binds (ps := ["_law_source", "_law_most"]) fun _ _ _ _ _ _ us hl => match us, hl with | [_, _], _ => rfl
  have mGr := PySem.W.mg_of X G aGr
  have FLp := fun_mk (st := sLawPairs) lLp cLp kLp
  have bLp := FLp.binds (ps := ["_law_edges"]) fun _ _ _ _ _ _ us hl => match us, hl with | [_], _ => rfl
  have mLp := PySem.W.mg_of X G aLp
  have FSu := fun_mk (st := sSubset) lSu cSu kSu
  have bSu := FSu.binds (ps := ["_law_source", "_law_items"]) fun _ _ _ _ _ _ us hl => match us, hl with | [_, _], _ => rfl
  have mSu := PySem.W.mg_of X G aSu
  have FSa := fun_mk (st := sSaid) lSa cSa kSa
  have bSa := FSa.binds (ps := ["_law_board", "_law_record"]) fun _ _ _ _ _ _ us hl => match us, hl with | [_, _], _ => rfl
  have mSa := PySem.W.mg_of X G aSa
  have FBp := fun_mk (st := sBad) lBp cBp kBp
  have bBp := FBp.binds (ps := ["_law_source", "_law_edges", "_law_known"]) fun _ _ _ _ _ _ us hl => match us, hl with | [_, _, _], _ => rfl
  have mBp := PySem.W.mg_of X G aBp
  have FLa := fun_mk (st := sLaw) lLa cLa kLa
  have FIn := fun_mk (st := sInit) lIn cIn kIn
  have bIn := FIn.binds (ps := ["self", "vertices", "edges"]) fun _ _ _ _ _ _ us hl => match us, hl with | [_, _, _], _ => rfl
  have FI1 := fun_mk (st := sI1) lI1 cI1 kI1
  have bI1 := FI1.binds (ps := ["self", "at"]) fun _ _ _ _ _ _ us hl => match us, hl with | [_, _], _ => rfl
  have O1 : OexC K Cr := ⟨⟨_, _, _, _, _, _, _, _, _, _, _, _, _, _, _, ox1, rv1⟩, sa1, xsb1, ty1, kp1⟩
  have X1 : XCls K Cr := ⟨by rw [xcl1]; rfl, xga1, xgg1, xsb1, xhd1, xca1, sg, tk, xmo1⟩
  have fX1 : XfC K Cr := ⟨xga1, xgg1, xsb1, xhd1⟩
  have GI1 : ∀ base : Heap, FnOk l.prog w K mg base CX0 1 fI1 _ ["self", "at"] (spXI Cr "at") := fun base => ok_I1 FI1 O1 fn1
  have mCr := PySem.W.mg_of X G a_Cr
  have mCn := PySem.W.mg_of X G a_Cn
  have mB := PySem.W.mg_of X G a_B
  have mCc := PySem.W.mg_of X G a_Cc
  have mCd := PySem.W.mg_of X G a_Cd
  have mCe := PySem.W.mg_of X G a_Ce
  have mCg := PySem.W.mg_of X G a_Cg
  have mCw := PySem.W.mg_of X G a_Cw
  have n_len := PySem.W.mg_none_of X G z_len
  have n_int := PySem.W.mg_none_of X G z_int
  have n_list := PySem.W.mg_none_of X G z_list
  have n_tuple := PySem.W.mg_none_of X G z_tuple
  have n_isinstance := PySem.W.mg_none_of X G z_isinstance
  have n_str := PySem.W.mg_none_of X G z_str
  have n_all := PySem.W.mg_none_of X G z_all
  have n_set := PySem.W.mg_none_of X G z_set
  have n_sorted := PySem.W.mg_none_of X G z_sorted
  have n_enumerate := PySem.W.mg_none_of X G z_enumerate
  have n_min := PySem.W.mg_none_of X G z_min
  have n_repr := PySem.W.mg_none_of X G z_repr
  have n_range := PySem.W.mg_none_of X G z_range
  have n_zip := PySem.W.mg_none_of X G z_zip
  have v_LETTERS := PySem.W.mg_of X G x_LETTERS
  have v_LONGEST_NAME := PySem.W.mg_of X G x_LONGEST_NAME
  have v_MOST_VERTICES := PySem.W.mg_of X G x_MOST_VERTICES
  have v_MOST_EDGES := PySem.W.mg_of X G x_MOST_EDGES
  have te := exm_two bsb bcl bty ⟨_, xcl1⟩ ty1 rsb
  have ON : XOwn K Cn := ⟨ex2, kp2, xs2, ty2⟩
  have kN : PySem.W.kitAny K (.ref Cr) [.ref Cc, .ref Cd, .ref Ce, .ref Cg, .ref Cw] = some false := kitAny_cons kRCc (fun _ => kitAny_cons kRCd (fun _ => kitAny_cons kRCe (fun _ => kitAny_cons kRCg (fun _ => kitAny_cons kRCw (fun _ => rfl) (fun z => nomatch z)) (fun z => nomatch z)) (fun z => nomatch z)) (fun z => nomatch z)) (fun z => nomatch z)
  have kI : PySem.W.kitAny K (.ref C) [.type "list", .type "tuple"] = some false := kitAny_cons kTl (fun _ => kitAny_cons kTt (fun _ => rfl) (fun z => nomatch z)) (fun z => nomatch z)
  refine ⟨PySem.W.fnOf "law" "law" (defArgs sLaw) (defBody sLaw) (defScope sLaw) .none kVLa dcLa pmLa anLa cdLa ctLa, fun s v => .of_eq rfl, fun base _ _ => ?_⟩
  have GNe : FnOk l.prog w K mg base CX0 1 fNe _ ["_law_source", "_law_many"] spNext := ok_next FNe
  have GOn : FnOk l.prog w K mg base CX0 2 fOn _ ["_law_source", "_law_some"] (spOne K) := ok_one FOn n_len mNe FNe bNe
  have GMi : FnOk l.prog w K mg base CX0 2 fMi _ ["_law_source", "_law_some"] (spMixed K) := ok_mixed FMi n_len n_list mNe FNe bNe
  have GRo : FnOk l.prog w K mg base CX0 1 fRo _ ["value"] spRow := ok_row FRo n_isinstance n_list n_tuple
  have GCo : FnOk l.prog w K mg base CX0 1 fCo _ ["value"] spCouple := ok_couple FCo n_isinstance n_len n_tuple
  have GAm : FnOk l.prog w K mg base CX0 1 fAm _ ["vertices", "value"] (spAmong K) := ok_among FAm n_isinstance n_str
  have GJo : FnOk l.prog w K mg base CX0 2 fJo _ ["vertices", "value"] (spJoins K) := ok_joins FJo mCo GCo kCo bCo mAm GAm kAm bAm
  have GNa : FnOk l.prog w K mg base CX0 1 fNa _ ["value"] spName := ok_name FNa n_isinstance n_str n_len n_all v_LETTERS v_LONGEST_NAME
  have GVe : FnOk l.prog w K mg base CX0 2 fVe _ ["value"] spVerts := ok_verts FVe n_len n_all n_set v_MOST_VERTICES mRo GRo kRo bRo mNa GNa kNa bNa
  have GEg : FnOk l.prog w K mg base CX0 3 fEg _ ["vertices", "value"] spEdges := ok_edges FEg n_len n_all n_set v_MOST_EDGES mRo GRo kRo bRo mJo GJo kJo bJo
  have GIn : FnOk l.prog w K mg base CX0 4 fIn _ ["self", "vertices", "edges"] (spInit C) := ok_init FIn T n_tuple n_sorted mVe GVe kVe bVe mEg GEg kEg bEg
  have GAp : FnOk l.prog w K mg base CX0 1 fAp _ ["one", "other"] spApart := ok_apart FAp
  have GSo : FnOk l.prog w K mg base CX0 1 fSo _ ["_law_cell"] spSource := ok_source FSo n_int
  have GGr : FnOk l.prog w K mg base CX0 3 fGr _ ["_law_source", "_law_most"] spGraph := ok_graph FGr n_len n_min mNe GNe kNe bNe mMi GMi kMi bMi mOn GOn kOn bOn
  have HCo : FnOk l.prog w K mg base CX0 1 fCo _ ["value"] spCoupleG := ok_coupleG FCo n_isinstance n_len n_tuple
  have HAm : FnOk l.prog w K mg base CX0 1 fAm _ ["vertices", "value"] (spAmongG K) := ok_amongG FAm n_isinstance n_str
  have HJo : FnOk l.prog w K mg base CX0 2 fJo _ ["vertices", "value"] (spJoinsG K) := ok_joinsG FJo mCo HCo kCo bCo mAm HAm kAm bAm
  have HIe : FnOk l.prog w K mg base CX0 3 fIe _ ["graph", "value"] (spIsEdge C) := ok_isedge FIe T mJo HJo kJo bJo
  have HRo : FnOk l.prog w K mg base CX0 1 fRo _ ["value"] spRowG := ok_rowG FRo n_isinstance n_list n_tuple
  have HIp : FnOk l.prog w K mg base CX0 4 fIp _ ["graph", "value"] (spIsPair C) := ok_ispair FIp mCo HCo kCo bCo mIe HIe kIe bIe mAp GAp kAp bAp
  have HLp : FnOk l.prog w K mg base CX0 1 fLp _ ["_law_edges"] spLawPairs := ok_lawpairs FLp n_sorted
  have HSu : FnOk l.prog w K mg base CX0 3 fSu _ ["_law_source", "_law_items"] spSubset := ok_subset FSu n_list mNe GNe kNe bNe mOn GOn kOn bOn
  have HRt : FnOk l.prog w K mg base CX0 1 fRo _ ["value"] (spRowT C) := ok_rowT T.cl caC sg tk moC kI FRo n_isinstance n_list n_tuple
  have HCk : FnOk l.prog w K mg base (L2.CX l.prog w) 5 fCk _ ["graph", "value"] (spCheckR C Cr) := ok_checkR FCk n_enumerate n_set mRo HRt kRo bRo mIp HIp kIp bIp mCr O1 aI1 tI1 (GI1 base) bI1
  have GPa : FnOk l.prog w K mg base CX0 2 fPa _ ["graph"] (spPairs C) := ok_pairs FPa T n_enumerate mAp GAp kAp bAp
  have GOd : FnOk l.prog w K mg base CX0 2 fOd _ ["graph", "value"] (spOrder C) := ok_order FOd T n_len n_all n_set mRo HRo kRo bRo mAm HAm kAm bAm
  have GAl : FnOk l.prog w K mg base CX0 1 fAl _ ["places", "pair"] spAlt := ok_alt FAl n_len n_sorted
  have GCv : FnOk l.prog w K mg base (L2.CX l.prog w) 3 fCv _ ["graph", "order"] (spConvex C Cn) := ok_convex FCv n_enumerate mCn ON mOd GOd kOd bOd mPa GPa kPa bPa mAl GAl kAl bAl
  have GLe : FnOk l.prog w K mg base (L2.CX l.prog w) 6 fLe _ ["graph", "one", "other"] (spLeadE C Cr) := ok_leadE FLe mCk HCk kCk bCk
  have GDw : FnOk l.prog w K mg base (L2.CX l.prog w) 7 fDw _ ["graph", "record"] (spDrawE C Cr) := ok_drawableE FDw T mLe GLe kLe bLe mCv GCv kCv bCv
  have GCt : FnOk l.prog w K mg base (L2.CX l.prog w) 8 fCt _ ["graph", "record"] (spDrawE C Cr) := ok_carriesToE FCt mDw GDw kDw bDw
  have GDr : FnOk l.prog w K mg base (L2.CX l.prog w) 9 fDr _ ["graph", "record"] (spDrawE C Cr) := ok_drawE FDr mCt GCt kCt bCt
  have GSa : FnOk l.prog w K mg base CX0 10 fSa _ ["_law_board", "_law_record"] (spSaid C) := ok_said FSa n_isinstance X1 fX1 fn1 te mB mCr mCc mCd mCe mCg mCw kRR kN mDr GDr kDr bDr
  have GBp : FnOk l.prog w K mg base CX0 3 fBp _ ["_law_source", "_law_edges", "_law_known"] spBad := ok_bad FBp n_zip n_list mOn GOn kOn bOn
  have GCa : FnOk l.prog w K mg base CX0 1 fCa _ ["_law_script", "_law_k"] (spCell K) := ok_cell FCa n_len
  exact ok_law FLa T n_len n_repr n_tuple n_range mCa GCa kCa bCa mSo GSo kSo bSo mGr GGr kGr bGr mOn GOn kOn bOn mMi GMi kMi bMi mSu HSu kSu bSu mLp HLp kLp bLp mNe GNe kNe bNe mBp GBp kBp bBp mSa GSa kSa bSa ⟨mkC, aIn, iIn, kcC⟩ GIn bIn
theorem walk {l : PySem.W.OpenLaw} {q : Program} {loose : List Str} {XP : (Str → Option Value) → Heap → Prop} {YP : World → Heap → Prop} {d : DefRec} {K : Params → PySem.W.Frag} (hn : l.most = some 63) (hdf : d.params.defaults = [])
    (hY : ∀ (w : World) (h : Heap), YP w h → (K w.params).In h)
    (F : ∀ (w : World) (mg : Str → Option Value) (fa : Addr) (h : Heap), (K w.params).In h → h.Ns mainGlobals mg → mg d.name = some (.ref fa) →
      ∃ fd : FuncData, (∀ (s : Shared) (u : Value), BindsTo s fd ⟨[u], []⟩ [("_law_script", u)]) ∧ ∀ base : Heap, (K w.params).In base → base.Ns mainGlobals mg → FnG l.prog w (K w.params) mg base 11 fa fd ["_law_script"] (spLaw (K w.params))) :
    PySem.W.WalkO q loose XP YP l.row.toRowW d [] (fun f vs => PySem.call f vs) :=
  walkG (n := 63) (k := 11) (x := "_law_script") (sp := spLaw) hn (by decide) hdf ⟨rfl, by decide, by decide⟩ hY F (fun _ _ a ns hl hS => ⟨a, ns, rfl, hS, hl, fun _ => rfl⟩)
end CP
open PySem PySem.W PyProof.Rows
set_option maxRecDepth 100000 in
set_option maxHeartbeats 0 in
theorem PySem.Challenge.cw_crossparity_k39_invalid_records_to_draw_holds : PySem.Challenge.rw_crossparity_k39_invalid_records_to_draw.Holds := by
  w_on; o_law; k_head; (case hw => w_witness2)
  k_fill
  refine CP.walk (l := PySem.Challenge.rw_crossparity_k39_invalid_records_to_draw) rfl rfl (fun w h Y => PySem.W.kIn_of Y) ?F
  case F =>
    intro w mg fa h KX G hmg
    refine' CP.all_mk KX G hmg ?aC ?a_Cr ?a_Cn ?a_B ?a_Cc ?a_Cd ?a_Ce ?a_Cg ?a_Cw ?aAp ?lAp ?cAp ?kAp ?aRo ?lRo ?cRo ?kRo ?aCo ?lCo ?cCo ?kCo ?aNa ?lNa ?cNa ?kNa ?aVe ?lVe ?cVe ?kVe ?aEg ?lEg ?cEg ?kEg ?aAm ?lAm ?cAm ?kAm ?aJo ?lJo ?cJo ?kJo ?aIe ?lIe ?cIe ?kIe ?aIp ?lIp ?cIp ?kIp ?aCk ?lCk ?cCk ?kCk ?aPa ?lPa ?cPa ?kPa ?aOd ?lOd ?cOd ?kOd ?aAl ?lAl ?cAl ?kAl ?aCv ?lCv ?cCv ?kCv ?aLe ?lLe ?cLe ?kLe ?aDw ?lDw ?cDw ?kDw ?aCt ?lCt ?cCt ?kCt ?aDr ?lDr ?cDr ?kDr ?aCa ?lCa ?cCa ?kCa ?aSo ?lSo ?cSo ?kSo ?aNe ?lNe ?cNe ?kNe ?aOn ?lOn ?cOn ?kOn ?aMi ?lMi ?cMi ?kMi ?aGr ?lGr ?cGr ?kGr ?aLp ?lLp ?cLp ?kLp ?aSu ?lSu ?cSu ?kSu ?aSa ?lSa ?cSa ?kSa ?aBp ?lBp ?cBp ?kBp ?aLa ?lLa ?cLa ?kLa ?aIn ?iIn ?lIn ?cIn ?kIn ?aI1 ?tI1 ?lI1 ?cI1 ?kI1 ?pgC ?hdC ?poC ?saC ?mkC ?kcC ?nV ?nE ?caC ?moC ?kTl ?kTt ?ox1 ?rv1 ?sa1 ?ty1 ?kp1 ?fn1 ?xcl1 ?xga1 ?xgg1 ?xsb1 ?xhd1 ?xca1 ?xmo1 ?xss1 ?sg ?tk ?ex2 ?ty2 ?kp2 ?xs2 ?bsb ?bcl ?bty ?rsb ?kRR ?kRCc ?kRCd ?kRCe ?kRCg ?kRCw ?z_len ?z_int ?z_list ?z_tuple ?z_isinstance ?z_str ?z_all ?z_set ?z_sorted ?z_enumerate ?z_min ?z_repr ?z_range ?z_zip ?x_LETTERS ?x_LONGEST_NAME ?x_MOST_VERTICES ?x_MOST_EDGES
    (case aC => k_is)
    (case a_Cr => k_is)
    (case a_Cn => k_is)
    (case a_B => k_is)
    (case a_Cc => k_is)
    (case a_Cd => k_is)
    (case a_Ce => k_is)
    (case a_Cg => k_is)
    (case a_Cw => k_is)
    (case aAp => k_is)
    (case lAp => k_is)
    (case cAp => k_is)
    (case kAp => k_is)
    (case aRo => k_is)
    (case lRo => k_is)
    (case cRo => k_is)
    (case kRo => k_is)
    (case aCo => k_is)
    (case lCo => k_is)
    (case cCo => k_is)
    (case kCo => k_is)
    (case aNa => k_is)
    (case lNa => k_is)
    (case cNa => k_is)
    (case kNa => k_is)
    (case aVe => k_is)
    (case lVe => k_is)
    (case cVe => k_is)
    (case kVe => k_is)
    (case aEg => k_is)
    (case lEg => k_is)
    (case cEg => k_is)
    (case kEg => k_is)
    (case aAm => k_is)
    (case lAm => k_is)
    (case cAm => k_is)
    (case kAm => k_is)
    (case aJo => k_is)
    (case lJo => k_is)
    (case cJo => k_is)
    (case kJo => k_is)
    (case aIe => k_is)
    (case lIe => k_is)
    (case cIe => k_is)
    (case kIe => k_is)
    (case aIp => k_is)
    (case lIp => k_is)
    (case cIp => k_is)
    (case kIp => k_is)
    (case aCk => k_is)
    (case lCk => k_is)
    (case cCk => k_is)
    (case kCk => k_is)
    (case aPa => k_is)
    (case lPa => k_is)
    (case cPa => k_is)
    (case kPa => k_is)
    (case aOd => k_is)
    (case lOd => k_is)
    (case cOd => k_is)
    (case kOd => k_is)
    (case aAl => k_is)
    (case lAl => k_is)
    (case cAl => k_is)
    (case kAl => k_is)
    (case aCv => k_is)
    (case lCv => k_is)
    (case cCv => k_is)
    (case kCv => k_is)
    (case aLe => k_is)
    (case lLe => k_is)
    (case cLe => k_is)
    (case kLe => k_is)
    (case aDw => k_is)
    (case lDw => k_is)
    (case cDw => k_is)
    (case kDw => k_is)
    (case aCt => k_is)
    (case lCt => k_is)
    (case cCt => k_is)
    (case kCt => k_is)
    (case aDr => k_is)
    (case lDr => k_is)
    (case cDr => k_is)
    (case kDr => k_is)
    (case aCa => k_is)
    (case lCa => k_is)
    (case cCa => k_is)
    (case kCa => k_is)
    (case aSo => k_is)
    (case lSo => k_is)
    (case cSo => k_is)
    (case kSo => k_is)
    (case aNe => k_is)
    (case lNe => k_is)
    (case cNe => k_is)
    (case kNe => k_is)
    (case aOn => k_is)
    (case lOn => k_is)
    (case cOn => k_is)
    (case kOn => k_is)
    (case aMi => k_is)
    (case lMi => k_is)
    (case cMi => k_is)
    (case kMi => k_is)
    (case aGr => k_is)
    (case lGr => k_is)
    (case cGr => k_is)
    (case kGr => k_is)
    (case aLp => k_is)
    (case lLp => k_is)
    (case cLp => k_is)
    (case kLp => k_is)
    (case aSu => k_is)
    (case lSu => k_is)
    (case cSu => k_is)
    (case kSu => k_is)
    (case aSa => k_is)
    (case lSa => k_is)
    (case cSa => k_is)
    (case kSa => k_is)
    (case aBp => k_is)
    (case lBp => k_is)
    (case cBp => k_is)
    (case kBp => k_is)
    (case aLa => k_is)
    (case lLa => k_is)
    (case cLa => k_is)
    (case kLa => k_is)
    (case aIn => k_is)
    (case iIn => k_is)
    (case lIn => k_is)
    (case cIn => k_is)
    (case kIn => k_is)
    (case aI1 => k_is)
    (case tI1 => k_is)
    (case lI1 => k_is)
    (case cI1 => k_is)
    (case kI1 => k_is)
    (case pgC => k_is)
    (case hdC => k_is)
    (case poC => k_is)
    (case saC => k_is)
    (case mkC => k_is)
    (case kcC => k_is)
    (case nV => k_is)
    (case nE => k_is)
    (case caC => k_is)
    (case moC => k_is)
    (case kTl => kit_is)
    (case kTt => kit_is)
    (case ox1 => k_is)
    (case rv1 => decide +kernel)
    (case sa1 => k_is)
    (case ty1 => k_is)
    (case kp1 => k_is)
    (case fn1 => k_is)
    (case xcl1 => k_is)
    (case xga1 => k_is)
    (case xgg1 => k_is)
    (case xsb1 => k_is)
    (case xhd1 => k_is)
    (case xca1 => k_is)
    (case xmo1 => k_is)
    (case xss1 => k_is)
    (case sg => k_is)
    (case tk => k_is)
    (case ex2 => k_exc)
    (case ty2 => k_is)
    (case kp2 => k_is)
    (case xs2 => k_is)
    (case bsb => k_is)
    (case bcl => k_is)
    (case bty => k_is)
    (case rsb => k_is)
    (case kRR => kit_is)
    (case kRCc => kit_is)
    (case kRCd => kit_is)
    (case kRCe => kit_is)
    (case kRCg => kit_is)
    (case kRCw => kit_is)
    (case z_len => k_is)
    (case z_int => k_is)
    (case z_list => k_is)
    (case z_tuple => k_is)
    (case z_isinstance => k_is)
    (case z_str => k_is)
    (case z_all => k_is)
    (case z_set => k_is)
    (case z_sorted => k_is)
    (case z_enumerate => k_is)
    (case z_min => k_is)
    (case z_repr => k_is)
    (case z_range => k_is)
    (case z_zip => k_is)
    (case x_LETTERS => k_is)
    (case x_LONGEST_NAME => k_is)
    (case x_MOST_VERTICES => k_is)
    (case x_MOST_EDGES => k_is)
