import PyProof.Rows.All
import Wide.All
import OpenK.AllK
import Wide.FinOn
import HandS.ForMost
import HandS.TupSets
import HandS.Strs
import HandS.SetKeys
import KE.KeyNested
import KE.KDictKeyed
import HandS.DictComp
import HandS.Walk
import KE.GoesMore
import PyProof.ReprRoads
import HandS.ExcInit
import HandS.ExcOwn
import HandS.ExcBuiltin
import HandS.ExcField
import HandS.IsInst
import KE.KExcIs
import KE.SortData
import KE.DataMinMax
import HandS.Iter
import KE.KDictPairs
import KE.KDictZip
import HandS.ExcValue
import PyProof.ListNew
import HandS.Base
import HandS.Call
import HandS.Exc
import HandS.OwnEq
import PyProof.InstNe
import KE.DataCmp
import HandS.Deep
import HandS.TryOnly
import HandS.WordsList
import HandS.Dict
import HandS.More
import HandS.Style
import HandS.TupLen
import HandS.Conv
import KE.KDictSum
import HandS.Set
import HandS.WideBits
import HandS.SetFor
import PyProof.SeqIndex
import HandS.Wide
import KE.KDictCopyH
import HandS.SortKw
import HandS.WordsExc
import PyProof.AutoSeq1
import HandS.Star
import HandS.Ends
import HandS.DictEq
import KE.DataEq
import KE.RegKIsAll
import HandS.Words
import PySem.Challenge.RW_crossparity_k29_invalid_edges_of_drawing
set_option Elab.async false
set_option linter.all false
set_option maxRecDepth 100000
set_option maxHeartbeats 8000000
namespace CP
open PySem PySem.Spec PyProof.Rows L2
def MaskG (m : Nat) : Prop := m = 7 ∨ m = 31 ∨ m = 127 ∨ m = 511
def met (m : Nat) : Nat → Nat → Nat → Nat
  | 0, _, acc => acc
  | k + 1, c, acc => met m k ((c * 5 + 1) % (m + 1)) (acc ||| 2 ^ c)
theorem met_bit (m : Nat) : ∀ (k a acc j : Nat), (met m k (lcgN m a) acc).testBit j = true → acc.testBit j = true ∨ ∃ b, a ≤ b ∧ b < a + k ∧ lcgN m b = j
  | 0, a, acc, j, h => .inl h
  | k + 1, a, acc, j, h => by
    have h' : (met m k (lcgN m (a + 1)) (acc ||| 2 ^ lcgN m a)).testBit j = true := h
    rcases met_bit m k (a + 1) _ j h' with c | ⟨b, b1, b2, b3⟩
    · rw [Nat.testBit_or, Bool.or_eq_true] at c
      rcases c with c | c
      · exact .inl c
      · rw [Nat.testBit_two_pow] at c
        exact .inr ⟨a, Nat.le_refl _, by omega, of_decide_eq_true c⟩
    · exact .inr ⟨b, by omega, by omega, b3⟩
theorem met_all {m : Nat} (hm : MaskG m) : met m (m + 1) 0 0 = 2 ^ (m + 1) - 1 := by
  rcases hm with rfl | rfl | rfl | rfl <;> decide +kernel
theorem met_back {m : Nat} (hm : MaskG m) : lcgN m (m + 1) = 0 := by
  rcases hm with rfl | rfl | rfl | rfl <;> decide +kernel
theorem odd_mask {m : Nat} (hm : MaskG m) : m % 2 = 1 := by
  rcases hm with rfl | rfl | rfl | rfl <;> rfl
theorem from0 {m : Nat} (hm : MaskG m) {j : Nat} (hj : j ≤ m) : ∃ b, b ≤ m ∧ lcgN m b = j := by
  have e : (met m (m + 1) (lcgN m 0) 0).testBit j = true := by
    show (met m (m + 1) 0 0).testBit j = true
    rw [met_all hm, Nat.testBit_two_pow_sub_one]
    exact decide_eq_true (by omega)
  rcases met_bit m (m + 1) 0 0 j e with c | ⟨b, _, b2, b3⟩
  · simp at c
  · exact ⟨b, by omega, b3⟩
theorem again {m : Nat} (hm : MaskG m) : ∀ k, lcgN m (m + 1 + k) = lcgN m k
  | 0 => met_back hm
  | k + 1 => by
    have ih := again hm k
    show ((lcgN m (m + 1 + k)) * 5 + 1) % (m + 1) = ((lcgN m k) * 5 + 1) % (m + 1)
    rw [ih]
theorem from_any {m : Nat} (hm : MaskG m) {i j : Nat} (hi : i ≤ m) (hj : j ≤ m) : ∃ k, k ≤ m ∧ lcgI m i k = j := by
  obtain ⟨a, ha, rfl⟩ := from0 hm hi
  obtain ⟨b, hb, rfl⟩ := from0 hm hj
  by_cases c : a ≤ b
  · exact ⟨b - a, by omega, by rw [lcgN_add, Nat.add_sub_cancel' c]⟩
  · refine ⟨m + 1 + b - a, by omega, ?_⟩
    rw [lcgN_add, Nat.add_sub_cancel' (by omega), again hm]
theorem runs_meet {m : Nat} (hm : MaskG m) (h : Int) {j : Nat} (hj : j ≤ m) : ∃ n, n ≤ m + 12 ∧ runI m (SetTable.bits h) n = j := by
  obtain ⟨k, hk, rfl⟩ := from_any hm (runI_le m (SetTable.bits h) 12) hj
  refine ⟨12 + k, by omega, runI_tail (bits_lt h) k⟩
theorem way_most (m : Nat) (h : Int) (k : Nat) : way m h k ≤ m := by
  have a : SetTable.bits h % (m + 1) ≤ m := Nat.le_of_lt_succ (Nat.mod_lt _ (Nat.succ_pos _))
  have r := runEnd_bd a
  have q := nth_in (m := m) k (runAt m (SetTable.bits h % (m + 1)) (SetTable.bits h))
  have q := q (by show SetTable.bits h % (m + 1) + (SetTable.runEnd m (SetTable.bits h % (m + 1)) - SetTable.bits h % (m + 1)) ≤ m; omega)
  exact Nat.le_trans (Nat.le_add_right _ _) q
theorem ways_meet {m : Nat} (hm : MaskG m) (h : Int) {j : Nat} (hj : j ≤ m) : ∃ k, k < 10 * SetTable.turns m ∧ way m h k = j := by
  obtain ⟨n, hn, e⟩ := runs_meet hm h hj
  obtain ⟨k, hk, q⟩ := run_nth m (SetTable.bits h) n
  refine ⟨k, by unfold SetTable.turns; omega, ?_⟩
  unfold way; rw [q]; exact e
structure TabG (t : SetTable) (hs : List Int) : Prop where
  ris : Ris t.place.toList
  dm : t.dummies = #[]
  sz : t.place.size = hs.length
  mok : MaskG t.mask
  bd : ∀ x ∈ t.place.toList, x ≤ t.mask
  reach : ∀ (i : Nat) (g : Int) (j : Nat), hs[i]? = some g → t.place.toList[i]? = some j → ∃ k, way t.mask g k = j ∧ ∀ c, c < k → way t.mask g c ∈ t.place.toList
theorem TabG.first {t : SetTable} {hs : List Int} (T : TabG t hs) (hl : hs.length ≤ t.mask) (g : Int) : ∃ K, K < 10 * SetTable.turns t.mask ∧ way t.mask g K ∉ t.place.toList ∧ ∀ c, c < K → way t.mask g c ∈ t.place.toList := by
  obtain ⟨j, hj, free⟩ := st_missing t.place.toList (t.mask + 1) (by have := T.sz; rw [Array.length_toList]; omega)
  obtain ⟨k, hk, e⟩ := ways_meet T.mok g (Nat.le_of_lt_succ hj)
  obtain ⟨K, k1, k2, k3⟩ := st_least (p := fun c => way t.mask g c ∉ t.place.toList) k (by rw [e]; exact free)
  exact ⟨K, by omega, k2, fun c hc => Classical.not_not.mp (k3 c hc)⟩
theorem TabG.before {t : SetTable} {hs : List Int} (T : TabG t hs) {g : Int} {K i j : Nat} (hK : way t.mask g K ∉ t.place.toList) (hi : hs[i]? = some g) (hj : t.place.toList[i]? = some j) : ∃ k, k < K ∧ way t.mask g k = j := by
  obtain ⟨k, e, all⟩ := T.reach i g j hi hj
  by_cases c : k < K
  · exact ⟨k, c, e⟩
  · exfalso
    by_cases d : K = k
    · rw [d, e] at hK; exact hK (List.mem_of_getElem? hj)
    · exact hK (all K (by omega))
theorem TabG.put {t : SetTable} {hs : List Int} (T : TabG t hs) {g : Int} {K : Nat} (hK : way t.mask g K ∉ t.place.toList) (occ : ∀ c, c < K → way t.mask g c ∈ t.place.toList) :
    ∃ n, n = SetTable.below t.place (way t.mask g K) ∧ (t.put (way t.mask g K)).2 = n ∧ n ≤ hs.length ∧ TabG (t.put (way t.mask g K)).1 (hs.take n ++ g :: hs.drop n) ∧ (t.put (way t.mask g K)).1.mask = t.mask ∧ (t.put (way t.mask g K)).1.fill = hs.length + 1 := by
  have top := way_most t.mask g K
  generalize hj : way t.mask g K = j at hK top
  obtain ⟨c1, _, _⟩ := below_cut T.ris j
  have lenp : t.place.toList.length = hs.length := by have := T.sz; rw [Array.length_toList]; exact this
  have nl : SetTable.below t.place j ≤ hs.length := by rw [← T.sz]; exact c1
  have new : t.place[SetTable.below t.place j]? ≠ some j := fun e => hK (List.mem_of_getElem? (i := SetTable.below t.place j) (by rw [Array.getElem?_toList]; exact e))
  have lay := put_place t j
  have size : (t.put j).1.place.size = hs.length + 1 := by rw [← Array.length_toList, lay, len_ins _ (by omega), lenp]
  have stay : ∀ {x : Nat}, x ∈ t.place.toList → x ∈ (t.put j).1.place.toList := fun hx => by rw [lay]; exact mem_ins.mpr (.inr hx)
  refine ⟨SetTable.below t.place j, rfl, rfl, nl, ⟨ris_insert T.ris new, put_dm T.dm j, by rw [len_ins _ nl]; exact size, T.mok, fun x hx => ?_, fun i g' j' h1 h2 => ?_⟩, rfl, ?_⟩
  · rw [lay] at hx
    rcases mem_ins.mp hx with rfl | hx
    · exact top
    · exact T.bd x hx
  · rw [lay, tins_get _ (by omega)] at h2
    rw [tins_get hs nl] at h1
    show ∃ k, way t.mask g' k = j' ∧ ∀ c, c < k → way t.mask g' c ∈ (t.put j).1.place.toList
    by_cases a : i < SetTable.below t.place j
    · rw [if_pos a] at h1 h2
      obtain ⟨k, e, q⟩ := T.reach i g' j' h1 h2
      exact ⟨k, e, fun c hc => stay (q c hc)⟩
    · rw [if_neg a] at h1 h2
      by_cases b : i = SetTable.below t.place j
      · rw [if_pos b] at h1 h2
        obtain rfl : g = g' := Option.some.inj h1
        obtain rfl : j = j' := Option.some.inj h2
        exact ⟨K, hj, fun c hc => stay (occ c hc)⟩
      · rw [if_neg b] at h1 h2
        obtain ⟨k, e, q⟩ := T.reach (i - 1) g' j' h1 h2
        exact ⟨k, e, fun c hc => stay (q c hc)⟩
  · show (t.put j).1.place.size + (t.put j).1.dummies.size = hs.length + 1
    rw [size, put_dm T.dm j]; rfl
theorem free_met {m : Nat} (hm : MaskG m) (owner : Array (Option Nat)) (g : Int) {j : Nat} (hj : j ≤ m) (hf : oAt owner j = none) :
    ∃ K, SetTable.layClean.free m owner (SetTable.turns m) (SetTable.bits g % (m + 1)) (SetTable.bits g) = some (way m g K) ∧ oAt owner (way m g K) = none ∧ ∀ c, c < K → oAt owner (way m g c) ≠ none := by
  obtain ⟨n, hn, e⟩ := runs_meet hm g hj
  have there : way m g (off m (SetTable.bits g % (m + 1)) (SetTable.bits g) n) = j := by
    unfold way; rw [nth_off, itL_run]; exact e
  obtain ⟨K, k1, k2, k3⟩ := st_least (p := fun c => oAt owner (way m g c) = none) _ (by rw [there]; exact hf)
  refine ⟨K, free_spec m owner (SetTable.turns m) n _ _ K (by unfold SetTable.turns; omega) k1 (fun c hc => ?_) ?_, k2, k3⟩
  · have q := k3 c hc
    cases z : oAt owner (way m g c) with
    | none => exact absurd z q
    | some x => rfl
  · show (oAt owner (way m g K)).isNone = true
    rw [k2]; rfl
theorem own_step {m : Nat} (hm : MaskG m) {done : List Int} {owner : Array (Option Nat)} (W : Own m done owner) (hl : done.length ≤ m) (g : Int) :
    ∃ j, SetTable.layClean.free m owner (SetTable.turns m) (SetTable.bits g % (m + 1)) (SetTable.bits g) = some j ∧ Own m (done ++ [g]) (owner.setIfInBounds j (some done.length)) := by
  obtain ⟨ps, lps, inps⟩ := W.ps
  obtain ⟨z, z1, z2⟩ := st_missing ps (m + 1) (by omega)
  have zf : oAt owner z = none := by
    cases q : oAt owner z with
    | none => rfl
    | some x => exact absurd (inps z (Nat.le_of_lt_succ z1) (by rw [q]; intro u; cases u)) z2
  obtain ⟨K, e1, e2, e3⟩ := free_met hm owner g (Nat.le_of_lt_succ z1) zf
  have top := way_most m g K
  generalize hj : way m g K = j at e1 e2 top
  have insz : j < owner.size := by rw [W.sz]; omega
  have me := oAt_set_self (some done.length) insz
  have grow : ∀ {i : Nat}, oAt owner i ≠ none → oAt (owner.setIfInBounds j (some done.length)) i ≠ none := fun {i} hi => by
    by_cases c : i = j
    · rw [c, me]; intro u; cases u
    · rw [oAt_set_ne _ c]; exact hi
  refine ⟨j, e1, by rw [Array.size_setIfInBounds]; exact W.sz, fun i k hi e => ?_, fun k hk => ?_, j :: ps, by rw [List.length_cons, List.length_append, lps]; rfl, fun i hi e => ?_⟩
  · by_cases c : i = j
    · rw [c, me] at e
      obtain rfl : done.length = k := Option.some.inj e
      exact ⟨g, K, by rw [List.getElem?_append_right (Nat.le_refl _), Nat.sub_self]; rfl, by rw [c]; exact hj, fun c hc => grow (e3 c hc)⟩
    · rw [oAt_set_ne _ c] at e
      obtain ⟨g', K', a1, a2, a3⟩ := W.at_ i k hi e
      exact ⟨g', K', by rw [List.getElem?_append_left (List.getElem?_eq_some_iff.mp a1).1]; exact a1, a2, fun c hc => grow (a3 c hc)⟩
  · by_cases c : k < done.length
    · obtain ⟨i, hi, e⟩ := W.all k c
      exact ⟨i, hi, by rw [oAt_set_ne _ (fun u => by rw [u, e2] at e; cases e)]; exact e⟩
    · have ek : k = done.length := by rw [List.length_append] at hk; simp at hk; omega
      exact ⟨j, top, by rw [ek]; exact me⟩
  · by_cases c : i = j
    · rw [c]; exact List.mem_cons_self
    · rw [oAt_set_ne _ c] at e
      exact List.mem_cons_of_mem _ (inps i hi e)
theorem own_all {m : Nat} (hm : MaskG m) : ∀ (rest done : List Int) (owner : Array (Option Nat)), Own m done owner → done.length + rest.length ≤ m → ∃ o2, rest.foldl (stepF m) (some (owner, done.length)) = some (o2, done.length + rest.length) ∧ Own m (done ++ rest) o2
  | [], done, owner, W, _ => ⟨owner, rfl, by rw [List.append_nil]; exact W⟩
  | g :: rest, done, owner, W, hl => by
    simp only [List.length_cons] at hl
    obtain ⟨j, e, W2⟩ := own_step hm W (by omega) g
    have l2 : (done ++ [g]).length = done.length + 1 := by simp
    obtain ⟨o2, f, W3⟩ := own_all hm rest (done ++ [g]) _ W2 (by omega)
    refine ⟨o2, ?_, by rw [List.append_assoc] at W3; exact W3⟩
    rw [l2] at f
    rw [List.foldl_cons, stepF_some e, f, List.length_cons]
    congr 2; omega
theorem laid_all {m : Nat} (hm : MaskG m) {hs : Array Int} (hn : hs.size ≤ m) : ∃ owner, SetTable.layClean m hs = some owner ∧ Own m hs.toList owner := by
  obtain ⟨o2, f, W⟩ := own_all hm hs.toList [] _ (Own.init m) (by simp; exact hn)
  refine ⟨o2, ?_, W⟩
  rw [layClean_eq]
  have f' : hs.toList.foldl (stepF m) (some (Array.replicate (m + 1) none, 0)) = _ := f
  rw [f']; rfl
theorem laid_anew (t : SetTable) {hs : Array Int} {wanted M : Nat} (hw : SetTable.sizeAbove wanted - 1 = M) (hM : MaskG M) (hn : hs.size ≤ M) :
    ∃ t' order, t.relaid hs wanted = some (t', order) ∧ order.toList.Perm (List.range hs.size) ∧ TabG t' (order.toList.map fun i => hs.getD i 0) ∧ t'.mask = M := by
  obtain ⟨owner, e, W⟩ := laid_all hM hn
  have r0 : t.relaid hs wanted = some (tabOf t M owner, ((liveOf M owner).map (·.2)).toArray) := by rw [relaid_eq, hw, e]; rfl
  obtain ⟨r1, r2⟩ : Ris ((liveOf M owner).map (·.1)) ∧ ∀ x ∈ (liveOf M owner).map (·.1), x ∈ List.range (M + 1) :=
    ris_live (fun j => owner.getD j none) (List.range (M + 1)) (by unfold Ris; exact List.pairwise_lt_range)
  have live : ∀ {j k : Nat}, (j, k) ∈ liveOf M owner ↔ j ≤ M ∧ oAt owner j = some k := mem_live W.sz
  have numb : ∀ k, k < hs.size → k ∈ (liveOf M owner).map (·.2) := fun k hk => by
    obtain ⟨j, b1, b2⟩ := W.all k (by rw [Array.length_toList]; exact hk)
    exact List.mem_map.mpr ⟨(j, k), live.mpr ⟨b1, b2⟩, rfl⟩
  have len : ((liveOf M owner).map (·.2)).length = hs.size := by
    obtain ⟨ps, p1, p2⟩ := W.ps
    have once : ((liveOf M owner).map (·.1)).Nodup := List.Pairwise.imp (fun h => Nat.ne_of_lt h) r1
    have up := nat_nodup_len ((liveOf M owner).map (·.1)) ps once fun x hx => by
      obtain ⟨⟨y, k⟩, hq, rfl⟩ := List.mem_map.mp hx
      obtain ⟨b1, b2⟩ := live.mp hq
      exact p2 y b1 (by rw [b2]; intro u; cases u)
    have down := nat_nodup_len (List.range hs.size) ((liveOf M owner).map (·.2)) List.nodup_range fun k hk => numb k (List.mem_range.mp hk)
    rw [List.length_range] at down
    rw [List.length_map] at up down ⊢
    have z : hs.toList.length = hs.size := rfl
    omega
  refine ⟨_, _, r0, perm_range hs.size _ len numb, ⟨r1, rfl, ?_, hM, fun x hx => Nat.le_of_lt_succ (List.mem_range.mp (r2 x hx)), fun i g j h1 h2 => ?_⟩, rfl⟩
  · show ((liveOf M owner).map (·.1)).toArray.size = (((liveOf M owner).map (·.2)).map _).length
    simp
  · have h1 : (((liveOf M owner).map (·.2)).map fun i => hs.getD i 0)[i]? = some g := h1
    have h2 : ((liveOf M owner).map (·.1))[i]? = some j := h2
    rw [List.map_map, List.getElem?_map] at h1
    rw [List.getElem?_map] at h2
    cases q : (liveOf M owner)[i]? with
    | none => rw [q] at h2; cases h2
    | some y =>
      obtain ⟨y, k⟩ := y
      rw [q] at h1 h2
      obtain rfl : y = j := Option.some.inj h2
      have eg : hs.getD k 0 = g := Option.some.inj h1
      obtain ⟨b1, b2⟩ := live.mp (List.mem_of_getElem? q)
      obtain ⟨g0, K, a1, a2, a3⟩ := W.at_ y k b1 b2
      have e0 : hs.getD k 0 = g0 := by rw [Array.getD_eq_getD_getElem?, ← Array.getElem?_toList, a1]; rfl
      obtain rfl : g0 = g := e0.symm.trans eg
      refine ⟨K, a2, fun c hc => ?_⟩
      show way M g0 c ∈ (liveOf M owner).map (·.1)
      cases z : oAt owner (way M g0 c) with
      | none => exact absurd z (a3 c hc)
      | some k2 => exact List.mem_map.mpr ⟨(way M g0 c, k2), live.mpr ⟨way_most M g0 c, z⟩, rfl⟩
theorem above_5 : SetTable.sizeAbove (SetTable.grown 5) = 32 := by decide +kernel
theorem above_19 : SetTable.sizeAbove (SetTable.grown 19) = 128 := by decide +kernel
theorem above_77 : SetTable.sizeAbove (SetTable.grown 77) = 512 := by decide +kernel
end CP
namespace CP
open PySem PySem.Spec PyProof.Rows L2
structure KF (P : Program) (w : World) (κ : Type) [DecidableEq κ] where
  At : Heap → κ → Addr → Prop
  hs : κ → Int
  eqb : ∀ {A : Around} {E : Value → Shared → Prop} {s : Shared} {x y : κ} {a b : Addr} {Q : Bool → Shared → Prop}, A.units + 8 < cLine → At s.heap x a → At s.heap y b → Q (decide (x = y)) s → wpAny (model P w) A (eqBool (.ref a) (.ref b)) Q E s
  seen : ∀ {A : Around} {E : Value → Shared → Prop} {s : Shared} {x : κ} {b : Addr} {Q : Bool → Shared → Prop} {ys : List Value}, At s.heap x b → (∀ y ∈ ys, ∃ z c, y = Value.ref c ∧ At s.heap z c) → Q false s → wpAny (model P w) A (searchCouldBeSeen (.ref b) ys) Q E s
  hby : ∀ {A : Around} {E : Value → Shared → Prop} {s : Shared} {x : κ} {b : Addr} {Q : Bool → Shared → Prop}, At s.heap x b → (∀ v, Q v s) → wpAny (model P w) A (hashByValue 8 (.ref b)) Q E s
  pyh : ∀ {A : Around} {E : Value → Shared → Prop} {s : Shared} {x : κ} {b : Addr} {Q : Int → Shared → Prop}, A.units + 8 < cLine → At s.heap x b → (∀ n, Q (hs x) { s with toks := s.toks + n }) → wpAny (model P w) A (pyHash (.ref b)) Q E s
  other : ∀ {h h' : Heap} {x : κ} {a b : Addr} {o : Obj} {es : Array (Int × Value)} {ep : Nat} {t : SetTable}, At h x b → h.get? a = some o → o.data = .set es ep t → Heap.SameBut a h h' → At h' x b
  kept : ∀ {h h' : Heap} {x : κ} {b : Addr}, At h x b → (∀ c o, h.get? c = some o → h'.get? c = some o) → At h' x b
variable {P : Program} {w : World} {κ : Type} [DecidableEq κ] {F : KF P w κ} {A : Around} {E : Value → Shared → Prop} {s : Shared}
def rowsK (F : KF P w κ) (L : List (Addr × κ)) : List (Int × Value) := L.map fun p => (F.hs p.2, Value.ref p.1)
def hsK (F : KF P w κ) (L : List (Addr × κ)) : List Int := L.map fun p => F.hs p.2
structure SK (F : KF P w κ) (h : Heap) (a : Addr) (L : List (Addr × κ)) (es : Array (Int × Value)) (ep : Nat) (t : SetTable) : Prop where
  obj : ∃ o, h.get? a = some o ∧ o.ExactSet ∧ o.data = .set es ep t
  row : es.toList = rowsK F L
  tab : TabG t (hsK F L)
  nod : (L.map (·.2)).Nodup
  ats : ∀ p ∈ L, F.At h p.2 p.1
  roo : L.length * 5 < t.mask * 3
  few : L.length < 300
  led : t.led = true ∨ w.params.followText "set-order" = true
section
variable {a : Addr} {L : List (Addr × κ)} {es : Array (Int × Value)} {ep : Nat} {t : SetTable}
theorem rowsK_len : (rowsK F L).length = L.length := List.length_map ..
theorem hsK_len : (hsK F L).length = L.length := List.length_map ..
theorem size_of_rows (e : es.toList = rowsK F L) : es.size = L.length := by
  rw [← Array.length_toList, e, rowsK_len]
theorem SK.size (R : SK F s.heap a L es ep t) : es.size = L.length := size_of_rows R.row
theorem entry_of_rows (e : es.toList = rowsK F L) {i : Nat} {p : Addr × κ} (hp : L[i]? = some p) : es[i]? = some (F.hs p.2, Value.ref p.1) := by
  rw [← Array.getElem?_toList, e, rowsK, List.getElem?_map, hp]; rfl
theorem fits_by (h1 : t.place.size = es.size) (h2 : t.dummies = #[]) (h3 : es.size ≤ t.mask) : t.fits es.size = true := by
  simp only [SetTable.fits, SetTable.fill, h2, Bool.and_eq_true, beq_iff_eq, decide_eq_true_eq]
  exact ⟨h1, by rw [h1]; exact h3⟩
theorem SK.fit (R : SK F s.heap a L es ep t) : t.fits es.size = true := by
  have q := R.tab.sz; rw [hsK_len] at q
  have r := R.size; have u := R.roo
  exact fits_by (by omega) R.tab.dm (by omega)
theorem SK.odd (R : SK F s.heap a L es ep t) : ¬ t.gaveWay = true := by
  simp only [SetTable.gaveWay, odd_mask R.tab.mok]; decide
theorem nth_dummy (m : Nat) : ∀ (n : Nat) (p : SetTable.Probe), p.dummy = none → (nth m p n).dummy = none
  | 0, _, e => e
  | n + 1, p, e => nth_dummy m n (adv m p) (by unfold adv; split <;> exact e)
abbrev st0 (m : Nat) (h : Int) : SetTable.Probe := runAt m (SetTable.bits h % (m + 1)) (SetTable.bits h)
theorem look_from (R : SK F s.heap a L es ep t) {x : Addr} {k : κ} (hx : F.At s.heap k x) (room : A.units + 8 < cLine) {K : Nat} (lim : K < 10 * SetTable.turns t.mask)
    (fre : way t.mask (F.hs k) K ∉ t.place.toList) (occ : ∀ c, c < K → way t.mask (F.hs k) c ∈ t.place.toList) {Q : SetFound → Shared → Prop}
    {ad : Bool} (yes : ∀ r : Option Nat, r.isSome = !ad → k ∈ L.map (·.2) → Q (.there r) s) (no : k ∉ L.map (·.2) → Q (.free (way t.mask (F.hs k) K) false) s) :
    ∀ (f c : Nat) (st : Option SetTable.Probe), st.getD (t.probeStart (F.hs k)) = nth t.mask (st0 t.mask (F.hs k)) c → c ≤ K → K - c < f →
      (∀ (i : Nat) p, L[i]? = some p → p.2 = k → ∃ d, c ≤ d ∧ d < K ∧ t.place.toList[i]? = some (way t.mask (F.hs k) d)) →
      wpAny (model P w) A (setSearchFrom a (.ref x) (F.hs k) ad f st) Q E s
  | 0, _, _, _, _, z, _ => absurd z (Nat.not_lt_zero _)
  | f + 1, c, st, est, hc, hf, rest => by
    obtain ⟨o, ob1, _, ob2⟩ := R.obj
    rw [setSearchFrom_succ]
    refine wpAny_bind (wpAny_setState_of ob1 ob2 R.fit ?_); dsimp only
    refine wp_if_neg R.odd ?_
    try refine wpAny_bind (wpAny_pure ?_)
    have shift : ∀ q, nth t.mask (nth t.mask (st0 t.mask (F.hs k)) c) q = nth t.mask (st0 t.mask (F.hs k)) (c + q) := fun q => (nth_add t.mask c _ q).symm
    have place : ∀ q, (nth t.mask (nth t.mask (st0 t.mask (F.hs k)) c) q).j = way t.mask (F.hs k) (c + q) := fun q => congrArg SetTable.Probe.j (shift q)
    have look := go_spec t R.tab.ris R.tab.dm (fun i => (es[i]?.map (·.1)).getD 0) (F.hs k) (10 * SetTable.turns t.mask) (K - c) _ (nth_dummy t.mask c (st0 t.mask (F.hs k)) rfl) (by omega)
      (fun q hq => by rw [place]; exact occ (c + q) (by omega)) (by rw [place, Nat.add_sub_cancel' hc]; exact fre)
    have hashOf : ∀ (i : Nat) p, L[i]? = some p → (es[i]?.map (·.1)).getD 0 = F.hs p.2 := fun i p hp => by rw [entry_of_rows R.row hp]; rfl
    rcases look with ⟨q, i, hq, hi, _, none_before, ans⟩ | ⟨none_before, ans⟩
    · have ans' : t.probe (fun i => (es[i]?.map (·.1)).getD 0) (F.hs k) (st.getD (t.probeStart (F.hs k))) = some (.candidate (way t.mask (F.hs k) (c + q)) i (nth t.mask (st0 t.mask (F.hs k)) (c + (q + 1)))) := by
        rw [est, ← place, ← shift]; exact ans
      rw [ans']; dsimp only
      rw [place] at hi
      have inL : i < L.length := by
        have u := (List.getElem?_eq_some_iff.mp hi).1
        have v := R.tab.sz; rw [hsK_len] at v; rw [Array.length_toList] at u; omega
      obtain ⟨p, hp⟩ : ∃ p, L[i]? = some p := ⟨_, List.getElem?_eq_getElem inL⟩
      have pL : p ∈ L := List.mem_of_getElem? hp
      have go_on : wpAny (model P w) A (searchRest a (.ref x) (F.hs k) ad f es t (way t.mask (F.hs k) (c + q)) i (nth t.mask (st0 t.mask (F.hs k)) (c + (q + 1)))) Q E s := by
        unfold searchRest
        rw [entry_of_rows R.row hp]; dsimp only
        refine wpAny_bind (wpAny_holding (F.eqb room (R.ats p pL) hx ?_))
        refine wpAny_bind (wpAny_setState_of ob1 ob2 R.fit ?_); dsimp only
        by_cases same : p.2 = k
        · cases ad with
          | true => refine wp_if_pos (by simp [same]) (wpAny_pure (yes none rfl (List.mem_map.mpr ⟨p, pL, same⟩)))
          | false =>
            refine wp_if_neg (by simp) ?_
            try refine wpAny_bind (wpAny_pure ?_)
            rw [sameMem]; dsimp only
            have live := slot_live R.tab.ris hi
            simp only [if_true, live, entry_of_rows R.row hp]
            refine wpAny_bind (wpAny_isSame_ref_self (wpAny_bind (wpAny_pure ?_)))
            simp only [if_true]
            refine wp_if_pos (by simp [same]) (wpAny_pure (yes (some i) rfl (List.mem_map.mpr ⟨p, pL, same⟩)))
        · refine wp_if_neg (by simp [same]) ?_
          try refine wpAny_bind (wpAny_pure ?_)
          rw [sameMem]; dsimp only
          have live := slot_live R.tab.ris hi
          simp only [if_true, live, entry_of_rows R.row hp]
          refine wpAny_bind (wpAny_isSame_ref_self (wpAny_bind (wpAny_pure ?_)))
          simp only [if_true]
          refine wp_if_neg (by simp [same]) (look_from R hx room lim fre occ yes no f (c + (q + 1)) _ rfl (by omega) (by omega) fun j r hj er => ?_)
          obtain ⟨d, d1, d2, d3⟩ := rest j r hj er
          refine ⟨d, ?_, d2, d3⟩
          rcases Nat.lt_trichotomy d (c + q) with lt | eq | gt
          · exact absurd ((hashOf j r hj).trans (congrArg F.hs er)) (none_before (d - c) j (by omega) (by rw [place, Nat.add_sub_cancel' d1]; exact d3))
          · rw [eq] at d3
            have l2 := slot_live R.tab.ris d3
            rw [live] at l2; injection l2 with l2
            rw [← l2, hp] at hj
            exact absurd ((congrArg Prod.snd (Option.some.inj hj)).trans er) same
          · omega
      by_cases led : t.led = true
      · refine wp_if_neg (by simp [led]) ?_
        try refine wpAny_bind (wpAny_pure ?_)
        exact go_on
      · refine wp_if_pos (by simp [led]) (wpAny_bind (F.seen hx (fun y hy => ?_) ?_))
        · obtain ⟨r, hr, rfl⟩ := List.mem_map.mp hy
          have hr1 : r ∈ es.toList := by
            have : r ∈ es ∧ r.1 = F.hs k := by simpa using hr
            simpa using this.1
          rw [R.row] at hr1
          obtain ⟨p2, hp2, rfl⟩ := List.mem_map.mp hr1
          exact ⟨p2.2, p2.1, rfl, R.ats p2 hp2⟩
        · refine wp_if_neg (by decide) ?_
          try refine wpAny_bind (wpAny_pure ?_)
          exact go_on
    · have ans' : t.probe (fun i => (es[i]?.map (·.1)).getD 0) (F.hs k) (st.getD (t.probeStart (F.hs k))) = some (.empty (way t.mask (F.hs k) K) none) := by
        have e2 := place (K - c); rw [Nat.add_sub_cancel' hc] at e2
        rw [est, ← e2]; exact ans
      rw [ans']; dsimp only
      refine wpAny_pure (no fun hm => ?_)
      obtain ⟨r, hr, er⟩ := List.mem_map.mp hm
      obtain ⟨j, hj⟩ := List.getElem?_of_mem hr
      obtain ⟨d, d1, d2, d3⟩ := rest j r hj er
      exact none_before (d - c) j (by omega) (by rw [place, Nat.add_sub_cancel' d1]; exact d3) ((hashOf j r hj).trans (congrArg F.hs er))
theorem look_for (R : SK F s.heap a L es ep t) {x : Addr} {k : κ} (hx : F.At s.heap k x) (room : A.units + 8 < cLine) {Q : SetFound → Shared → Prop} {ad : Bool} (yes : ∀ r : Option Nat, r.isSome = !ad → k ∈ L.map (·.2) → Q (.there r) s)
    (no : ∀ K, k ∉ L.map (·.2) → way t.mask (F.hs k) K ∉ t.place.toList → (∀ c, c < K → way t.mask (F.hs k) c ∈ t.place.toList) → Q (.free (way t.mask (F.hs k) K) false) s) :
    wpAny (model P w) A (setSearch a (.ref x) (F.hs k) ad) Q E s := by
  have u := R.roo
  obtain ⟨K, lim, fre, occ⟩ := R.tab.first (by rw [hsK_len]; omega) (F.hs k)
  have small : 10 * SetTable.turns t.mask ≤ 5260 := by
    unfold SetTable.turns; rcases R.tab.mok with e | e | e | e <;> omega
  unfold setSearch
  refine look_from R hx room lim fre occ yes (fun z => no K z fre occ) 100000 0 none rfl (Nat.zero_le _) (by omega) fun i p hp ek => ?_
  have hh : (hsK F L)[i]? = some (F.hs k) := by rw [hsK, List.getElem?_map, hp, ← ek]; rfl
  have hl : i < t.place.toList.length := by
    have v := R.tab.sz; rw [hsK_len] at v
    have u := (List.getElem?_eq_some_iff.mp hp).1; rw [Array.length_toList]; omega
  obtain ⟨c, c1, c2⟩ := R.tab.before fre hh (List.getElem?_eq_getElem hl)
  exact ⟨c, Nat.zero_le _, c1, by rw [List.getElem?_eq_getElem hl, c2]⟩
end
section
variable {a : Addr} {L : List (Addr × κ)} {es : Array (Int × Value)} {ep : Nat} {t : SetTable}
theorem pick_rows (L : List (Addr × κ)) (e : es.toList = rowsK F L) : ∀ l : List Nat, (∀ i ∈ l, i < L.length) →
    l.filterMap (fun i => es[i]?) = rowsK F (l.filterMap fun i => L[i]?) ∧ hsK F (l.filterMap fun i => L[i]?) = l.map fun i => (es.map (·.1)).getD i 0
  | [], _ => ⟨rfl, rfl⟩
  | i :: l, hl => by
    have hi := hl i List.mem_cons_self
    obtain ⟨p, hp⟩ : ∃ p, L[i]? = some p := ⟨_, List.getElem?_eq_getElem hi⟩
    obtain ⟨e1, e2⟩ := pick_rows L e l fun j hj => hl j (List.mem_cons_of_mem _ hj)
    have q := entry_of_rows e hp
    have q2 : (es.map (·.1)).getD i 0 = F.hs p.2 := by
      rw [Array.getD_eq_getD_getElem?, Array.getElem?_map, q]; rfl
    refine ⟨?_, ?_⟩
    · rw [List.filterMap_cons_some q, List.filterMap_cons_some hp, e1]; rfl
    · rw [List.filterMap_cons_some hp, List.map_cons, q2, ← e2]; rfl
theorem pick_all {α : Type} (L : List α) : ∀ n, n ≤ L.length → (List.range n).filterMap (fun i => L[i]?) = L.take n
  | 0, _ => rfl
  | n + 1, hn => by
    rw [List.range_succ, List.filterMap_append, pick_all L n (Nat.le_of_lt hn), List.take_succ, List.filterMap_cons, List.getElem?_eq_getElem hn]; rfl
theorem pick_perm {α : Type} (L : List α) {l : List Nat} (h : l.Perm (List.range L.length)) : (l.filterMap fun i => L[i]?).Perm L := by
  have q := h.filterMap fun i => L[i]?
  rw [pick_all L _ (Nat.le_refl _), List.take_length] at q
  exact q
theorem find_in (R : SK F s.heap a L es ep t) {x : Addr} {k : κ} (hx : F.At s.heap k x) (room : A.units + 8 < cLine) {Q : Option Nat → Shared → Prop} (hQ : ∀ r : Option Nat, r.isSome = decide (k ∈ L.map (·.2)) → Q r s) :
    wpAny (model P w) A (setFind a (.ref x) (F.hs k)) Q E s := by
  obtain ⟨o, ob1, obx, ob2⟩ := R.obj
  unfold setFind
  rw [show (100000 : Nat) = 99999 + 1 from rfl]
  unfold setFindIn
  refine wpAny_bind (wpAny_setState_of ob1 ob2 R.fit ?_); dsimp only
  refine wp_if_neg (by simp [byScan, Value.scannable]) ?_
  try refine wpAny_bind (wpAny_pure ?_)
  refine wpAny_bind (look_for R hx room (fun r hr hm => ?_) fun K hm fre occ => ?_)
  · exact wpAny_pure (hQ r (by rw [hr, decide_eq_true hm]; rfl))
  · exact wpAny_pure (hQ none (by rw [decide_eq_false hm]; rfl))
theorem relaid_led {t t' : SetTable} {hs : Array Int} {n : Nat} {ord : Array Nat} (h : t.relaid hs n = some (t', ord)) : t'.led = t.led := by
  unfold SetTable.relaid SetTable.laid at h
  simp only [Option.bind_eq_bind, Option.pure_def] at h
  cases q : SetTable.layClean (SetTable.sizeAbove n - 1) hs with
  | none => rw [q] at h; simp at h
  | some o => rw [q] at h; simp at h; rw [← h.1]
theorem lay_anew {o : Obj} (ob1 : s.heap.get? a = some o) (obx : o.ExactSet) (ob2 : o.data = .set es ep t) (row : es.toList = rowsK F L) (pz : t.place.size = es.size) (dm : t.dummies = #[]) (le : es.size ≤ t.mask)
    (nod : (L.map (·.2)).Nodup) (ats : ∀ p ∈ L, F.At s.heap p.2 p.1) (few : L.length < 300) (ld : t.led = true ∨ w.params.followText "set-order" = true) {n M : Nat} (hM : SetTable.sizeAbove n - 1 = M) (ok : MaskG M) (most : SetTable.sizeAbove n ≤ 512) (roo : L.length * 5 < M * 3) {Q : Unit → Shared → Prop}
    (hQ : ∀ h' L' es' ep' t', Heap.SameBut a s.heap h' → SK F h' a L' es' ep' t' → L'.Perm L → Q () { s with heap := h' }) : wpAny (model P w) A (setRelay a n) Q E s := by
  have sz := size_of_rows row
  obtain ⟨t', ord, er, pm, T, em⟩ := laid_anew t (hs := es.map (·.1)) (wanted := n) hM ok (by rw [Array.size_map, sz]; omega)
  rw [Array.size_map, sz] at pm
  obtain ⟨r1, r2⟩ := pick_rows L row ord.toList fun i hi => List.mem_range.mp (pm.mem_iff.mp hi)
  have pL := pick_perm L pm
  rw [← r2] at T
  generalize (ord.toList.filterMap fun i => L[i]?) = L2 at r1 r2 pL T
  have r3 : (ord.filterMap (es[·]?)).toList = rowsK F L2 := by rw [← r1]; simp
  have z2 : (ord.filterMap (es[·]?)).size = es.size := by rw [size_of_rows r3, pL.length_eq, sz]
  rw [setRelay_eq]
  refine wpAny_bind (wpAny_setState_of ob1 ob2 (fits_by pz dm le) ?_); dsimp only
  refine wp_if_neg (by rw [sizeLine_eq]; omega) ?_
  try refine wpAny_bind (wpAny_pure ?_)
  rw [er]; dsimp only
  refine wpAny_bind (wp_if_neg (by rw [z2]; simp) ?_)
  try refine wpAny_bind (wpAny_pure ?_)
  refine wpAny_pure ?_; dsimp only
  refine wpAny_storeSet_of ob1 ob2 ?_ (by rw [z2, sz, sizeLine_eq]; omega)
  have sb : Heap.SameBut a s.heap (s.heap.update a (Obj.putSet (ord.filterMap (es[·]?)) t')) := Heap.SameBut.update ..
  exact hQ _ L2 _ _ _ sb ⟨⟨_, store_at ob1 ob2, ⟨obx.1, obx.2.1, obx.2.2⟩, rfl⟩, r3, T, (pL.map (·.2)).nodup_iff.mpr nod, fun p hp => F.other (ats p (pL.mem_iff.mp hp)) ob1 ob2 sb, by rw [pL.length_eq, em]; exact roo, by rw [pL.length_eq]; exact few, by rw [relaid_led er]; exact ld⟩ pL
def marked (v : Bool) (t : SetTable) : SetTable := if v = true then t else { t with plain := false }
theorem plainly (v : Bool) {hs : List Int} (T : TabG t hs) : TabG (marked v t) hs := by
  cases v
  · exact ⟨T.ris, T.dm, T.sz, T.mok, T.bd, T.reach⟩
  · exact T
theorem marked_mask (v : Bool) (t : SetTable) : (marked v t).mask = t.mask := by cases v <;> rfl
theorem marked_led (v : Bool) (t : SetTable) : (marked v t).led = t.led := by cases v <;> rfl
theorem marked_fill (v : Bool) (t : SetTable) : (marked v t).fill = t.fill := by cases v <;> rfl
theorem by_value {β : Type} {x : Addr} {k : κ} (hx : F.At s.heap k x) {f : Bool → Sem β} {Q : β → Shared → Prop} (h : ∀ v, wpAny (model P w) A (f v) Q E s) : wpAny (model P w) A (if t.plain = true then (hashByValue 8 (.ref x) >>= f) else (pure true >>= f)) Q E s := by
  by_cases c : t.plain = true
  · exact wp_if_pos c (wpAny_bind (F.hby hx h))
  · exact wp_if_neg c (wpAny_bind (wpAny_pure (h true)))
theorem put_in (R : SK F s.heap a L es ep t) {x : Addr} {k : κ} (hx : F.At s.heap k x) (room : A.units + 8 < cLine) (fewer : L.length + 1 < 300) {Q : Bool → Shared → Prop}
    (hQ : ∀ b h' L' es' ep' t', Heap.SameBut a s.heap h' → SK F h' a L' es' ep' t' → (k ∈ L.map (·.2) → L' = L) → (k ∉ L.map (·.2) → L'.Perm ((x, k) :: L)) → Q b { s with heap := h' }) :
    wpAny (model P w) A (setAddHashed a (.ref x) (F.hs k)) Q E s := by
  obtain ⟨o, ob1, obx, ob2⟩ := R.obj
  have sz := R.size
  have roo := R.roo
  unfold setAddHashed
  refine wpAny_holding ?_
  rw [show (100000 : Nat) = 99999 + 1 from rfl, setAddHashedIn_succ]
  refine wpAny_bind (wpAny_setState_of ob1 ob2 R.fit ?_); dsimp only
  refine wp_if_neg (by simp [byScan, Value.scannable]) ?_
  try refine wpAny_bind (wpAny_pure ?_)
  refine wpAny_bind (look_for R hx room (fun r hr hm => ?_) fun K hm fre occ => ?_)
  · exact wpAny_pure (hQ false s.heap L es ep t (Heap.SameBut.refl a s.heap) R (fun _ => rfl) fun z => absurd hm z)
  · dsimp only
    refine wpAny_bind (wpAny_setState_of ob1 ob2 R.fit ?_); dsimp only
    obtain ⟨n0, q0, q1, q2, q3, q4, q9⟩ := R.tab.put fre occ
    have q8 : (t.put (way t.mask (F.hs k) K)).1.led = t.led := rfl
    generalize t.put (way t.mask (F.hs k) K) = pt at q1 q3 q4 q8 q9 ⊢
    obtain ⟨t1, n⟩ := pt
    dsimp only at q1 q3 q4 q8 q9 ⊢
    subst q1
    refine by_value hx fun v => ?_
    replace q3 := plainly v q3
    have ld1 : (marked v t1).led = true ∨ w.params.followText "set-order" = true := by
      have e : (marked v t1).led = t.led := by rw [marked_led, q8]
      rw [e]; exact R.led
    replace q4 : (marked v t1).mask = t.mask := (marked_mask v t1).trans q4
    replace q9 : (marked v t1).fill = _ := (marked_fill v t1).trans q9
    show wpAny _ _ (storeSet a _ (marked v t1) >>= fun _ => if (!false && (marked v t1).tooFull) = true then (setRelay a _ >>= fun _ => pure true) else pure true) _ _ _
    generalize marked v t1 = t1 at q3 q4 q9 ld1 ⊢
    clear q0
    have pm := put_perm L n (x, k)
    have row1 : (SetTable.insertAt es n (F.hs k, Value.ref x)).toList = rowsK F (L.take n ++ (x, k) :: L.drop n) := by
      rw [SetTable.toList_insertAt, R.row]
      simp only [rowsK, List.map_append, List.map_cons, List.map_take, List.map_drop]
    have hh1 : hsK F (L.take n ++ (x, k) :: L.drop n) = (hsK F L).take n ++ F.hs k :: (hsK F L).drop n := by
      simp only [hsK, List.map_append, List.map_cons, List.map_take, List.map_drop]
    rw [← hh1] at q3
    have nod1 : ((L.take n ++ (x, k) :: L.drop n).map (·.2)).Nodup := (pm.map (·.2)).nodup_iff.mpr (by rw [List.map_cons]; exact List.nodup_cons.mpr ⟨hm, R.nod⟩)
    generalize SetTable.insertAt es n (F.hs k, Value.ref x) = es1 at row1 ⊢
    generalize L.take n ++ (x, k) :: L.drop n = L1 at pm q3 nod1 row1
    have len1 : L1.length = L.length + 1 := pm.length_eq
    have sz1 : es1.size = L.length + 1 := (size_of_rows row1).trans len1
    refine wpAny_bind (wpAny_storeSet_of ob1 ob2 ?_ (by rw [sz1, sizeLine_eq]; omega))
    have sb : Heap.SameBut a s.heap (s.heap.update a (Obj.putSet es1 t1)) := Heap.SameBut.update ..
    have ob3 := store_at (es' := es1) (t' := t1) ob1 ob2
    generalize s.heap.update a (Obj.putSet es1 t1) = h1 at sb ob3 ⊢
    have ats1 : ∀ p ∈ L1, F.At h1 p.2 p.1 := fun p hp => by
      rcases List.mem_cons.mp (pm.mem_iff.mp hp) with rfl | hp
      · exact F.other hx ob1 ob2 sb
      · exact F.other (R.ats p hp) ob1 ob2 sb
    have full : t1.tooFull = decide ((L.length + 1) * 5 ≥ t1.mask * 3) := by
      unfold SetTable.tooFull; rw [q9, hsK_len]
    by_cases hf : (L.length + 1) * 5 ≥ t1.mask * 3
    · rw [full, decide_eq_true hf]
      first
        | (refine wpAny_bind ?_; refine wp_if_pos (by simp) ?_)
        | (refine wp_if_pos (by simp) ?_; refine wpAny_bind ?_)
      rw [sz]
      have pz1 : t1.place.size = es1.size := by have v := q3.sz; rw [hsK_len, len1] at v; rw [v, sz1]
      have two : (t.mask = 7 ∧ L.length = 4) ∨ (t.mask = 31 ∧ L.length = 18) ∨ (t.mask = 127 ∧ L.length = 76) := by
        rw [q4] at hf
        rcases R.tab.mok with e | e | e | e <;> rw [e] at hf roo
        · exact .inl ⟨e, by omega⟩
        · exact .inr (.inl ⟨e, by omega⟩)
        · exact .inr (.inr ⟨e, by omega⟩)
        · omega
      have more : ∀ M, SetTable.sizeAbove (SetTable.grown (L.length + 1)) - 1 = M → MaskG M → SetTable.sizeAbove (SetTable.grown (L.length + 1)) ≤ 512 → (L.length + 1) * 5 < M * 3 →
          wpAny (model P w) A (setRelay a (SetTable.grown (L.length + 1))) (fun _ s' => wpAny (model P w) A (pure true) Q E s') E { s with heap := h1 } := fun M m1 m2 m3 m4 =>
        lay_anew (s := { s with heap := h1 }) ob3 ⟨obx.1, obx.2.1, obx.2.2⟩ rfl row1 pz1 q3.dm (by rw [sz1, q4]; rcases two with ⟨e, e2⟩ | ⟨e, e2⟩ | ⟨e, e2⟩ <;> omega) nod1 ats1 (by rw [len1]; exact fewer) ld1 m1 m2 m3 (by rw [len1]; exact m4)
          fun h2 L2 es2 ep2 t2 sb2 R2 pm2 => wpAny_pure (hQ true h2 L2 es2 ep2 t2 (sb.trans sb2) R2 (fun z => absurd z hm) fun _ => pm2.trans pm)
      rcases two with ⟨_, e2⟩ | ⟨_, e2⟩ | ⟨_, e2⟩
      · exact more 31 (by rw [e2, above_5]) (.inr (.inl rfl)) (by rw [e2, above_5]; decide) (by omega)
      · exact more 127 (by rw [e2, above_19]) (.inr (.inr (.inl rfl))) (by rw [e2, above_19]; decide) (by omega)
      · exact more 511 (by rw [e2, above_77]) (.inr (.inr (.inr rfl))) (by rw [e2, above_77]; decide) (by omega)
    · rw [full, decide_eq_false hf]
      first
        | refine wp_if_neg (by simp) ?_
        | (refine wpAny_bind ?_; refine wp_if_neg (by simp) ?_; refine wpAny_pure ?_)
      exact wpAny_pure (hQ true h1 L1 es1 (ep + 1) t1 sb ⟨⟨_, ob3, ⟨obx.1, obx.2.1, obx.2.2⟩, rfl⟩, row1, q3, nod1, ats1, by rw [len1]; omega, by rw [len1]; exact fewer, ld1⟩ (fun z => absurd z hm) fun _ => pm)
end
section
structure Has (ks : List (Addr × κ)) (i : Nat) (L : List (Addr × κ)) : Prop where
  sub : ∀ p ∈ L, p ∈ ks.take i
  all : ∀ p ∈ ks.take i, p.2 ∈ L.map (·.2)
  len : L.length ≤ i
  full : (ks.map (·.2)).Nodup → L.length = i
  once : L.length = i → ((ks.take i).map (·.2)).Nodup
theorem take_one {α : Type} {l : List α} {i : Nat} {x : α} (h : l[i]? = some x) : l.take (i + 1) = l.take i ++ [x] := by rw [List.take_succ, h]; rfl
theorem Has.none (ks : List (Addr × κ)) : Has ks 0 [] := ⟨(fun _ z => nomatch z), (fun _ z => by simp at z), Nat.le_refl _, fun _ => rfl, fun _ => List.nodup_nil⟩
theorem Has.next {ks L L' : List (Addr × κ)} {i : Nat} {x : Addr × κ} (g : Has ks i L) (hx : ks[i]? = some x) (c1 : x.2 ∈ L.map (·.2) → L' = L) (c2 : x.2 ∉ L.map (·.2) → L'.Perm (x :: L)) : Has ks (i + 1) L' := by
  by_cases c : x.2 ∈ L.map (·.2)
  · rw [c1 c]
    refine ⟨fun p hp => ?_, fun p hp => ?_, Nat.le_succ_of_le g.len, fun nd => ?_, fun z => absurd z (Nat.ne_of_lt (Nat.lt_succ_of_le g.len))⟩
    · rw [take_one hx]; exact List.mem_append_left _ (g.sub p hp)
    · rw [take_one hx] at hp
      rcases List.mem_append.mp hp with z | z
      · exact g.all p z
      · rw [List.mem_singleton.mp z]; exact c
    · exfalso
      obtain ⟨p, hp, e⟩ := List.mem_map.mp c
      obtain ⟨j, hj⟩ := List.getElem?_of_mem (g.sub p hp)
      have hji : j < i := Nat.lt_of_lt_of_le (List.getElem?_eq_some_iff.mp hj).1 (List.length_take_le _ _)
      rw [List.getElem?_take_of_lt hji] at hj
      have a1 : (ks.map (·.2))[j]? = some x.2 := by rw [List.getElem?_map, hj, ← e]; rfl
      have a2 : (ks.map (·.2))[i]? = some x.2 := by rw [List.getElem?_map, hx]; rfl
      obtain ⟨b1, e1⟩ := List.getElem?_eq_some_iff.mp a1
      obtain ⟨b2, e2⟩ := List.getElem?_eq_some_iff.mp a2
      exact (List.pairwise_iff_getElem.mp nd) j i b1 b2 hji (e1.trans e2.symm)
  · have pm := c2 c
    refine ⟨fun p hp => ?_, fun p hp => ?_, by rw [pm.length_eq]; exact Nat.succ_le_succ g.len, fun nd => by rw [pm.length_eq, List.length_cons, g.full nd], fun z => ?_⟩
    · rw [take_one hx]
      rcases List.mem_cons.mp (pm.mem_iff.mp hp) with rfl | z
      · exact List.mem_append_right _ (List.mem_singleton.mpr rfl)
      · exact List.mem_append_left _ (g.sub p z)
    · rw [(pm.map (·.2)).mem_iff, List.map_cons]
      rw [take_one hx] at hp
      rcases List.mem_append.mp hp with z | z
      · exact List.mem_cons_of_mem _ (g.all p z)
      · rw [List.mem_singleton.mp z]; exact List.mem_cons_self
    · rw [pm.length_eq, List.length_cons] at z
      have nd := g.once (by omega)
      rw [take_one hx, List.map_append]
      refine List.nodup_append.mpr ⟨nd, by simp, fun y hy y' hy' e => c ?_⟩
      simp at hy'
      obtain ⟨p, hp, ep⟩ := List.mem_map.mp hy
      rw [← hy', ← e, ← ep]; exact g.all p hp
theorem SK.kept {h h' : Heap} {a : Addr} {L : List (Addr × κ)} {es : Array (Int × Value)} {ep : Nat} {t : SetTable} (R : SK F h a L es ep t) (ha : ∀ o, h.get? a = some o → h'.get? a = some o) (ht : ∀ p ∈ L, F.At h' p.2 p.1) : SK F h' a L es ep t := by
  obtain ⟨o, ob, r⟩ := R.obj
  exact ⟨⟨o, ha o ob, r⟩, R.row, R.tab, R.nod, ht, R.roo, R.few, R.led⟩
theorem SK.new {h : Heap} {a : Addr} (ho : h.get? a = some { cls := .type "set", dict := none, data := .set #[] 0 (.fresh 0 0 (!w.params.followText "set-order")) }) : SK F h a [] #[] 0 (.fresh 0 0 (!w.params.followText "set-order")) :=
  ⟨⟨_, ho, ⟨rfl, rfl, rfl⟩, rfl⟩, rfl, ⟨List.Pairwise.nil, rfl, rfl, .inl rfl, fun _ z => (by cases z), fun _ _ _ z => (by simp [hsK] at z)⟩, List.nodup_nil, fun _ z => (by cases z), (by show 0 * 5 < 7 * 3; decide), (by show 0 < 300; decide), (by show (!w.params.followText "set-order") = true ∨ _; cases w.params.followText "set-order" <;> simp)⟩
end
end CP
namespace CP
open PySem PySem.Spec PyProof.Rows L2
variable {P : Program} {w : World} {A : Around} {E : Value → Shared → Prop} {s : Shared}
section
variable {a : Addr}
structure Fills (P : Program) (w : World) (u : Nat) (E : Value → Shared → Prop) (S : Addr) (items : Array Value) (h0 : Heap) (J : Nat → Heap → Prop) : Prop where
  zero : ∀ (h : Heap), h.get? S = some { cls := .type "set", dict := none, data := .set #[] 0 (.fresh 0 0 (!w.params.followText "set-order")) } → (∀ c o, h0.get? c = some o → h.get? c = some o) → J 0 h
  keep : ∀ (i : Nat) (h h' : Heap), J i h → (∀ o, h.get? S = some o → h'.get? S = some o) → (∀ c o, h0.get? c = some o → h'.get? c = some o) → J i h'
  step : ∀ (A' : Around) (i : Nat) (v : Value) (s' : Shared), A'.units ≤ u → items[i]? = some v → J i s'.heap → (∀ c o, h0.get? c = some o → s'.heap.get? c = some o) → ∀ Q : Bool → Shared → Prop,
    (∀ (b : Bool) (h' : Heap) (n : Nat), Heap.SameBut S s'.heap h' → J (i + 1) h' → Q b { s' with heap := h', toks := s'.toks + n }) → wpAny (model P w) A' (setAdd S v) Q E s'
theorem fills_loop {I : Addr} {fp wr : List Addr} {G : Array GenState → Array GenState → Prop} {items : Array Value} {St : Nat → Shared → Prop} {R : Result → Shared → Prop} {u : Nat} {h0 : Heap} {J : Nat → Heap → Prop} {S : Addr}
    (W : WalksS P w A.in1 I fp wr G items.size (fun i v => items[i]? = some v) St) (off : S ∉ fp) (freeS : h0.get? S = none) (freeW : ∀ b ∈ wr, h0.get? b = none) (hu : A.in1.units ≤ u)
    (T : ∀ E, Fills P w u E S items h0 J) :
    ∀ (k i : Nat) (s : Shared), items.size - i = k → i ≤ items.size → St i s → (∀ b o, h0.get? b = some o → s.heap.get? b = some o) → J i s.heap →
      (∀ s', Moved (S :: wr) G s s' → J items.size s'.heap → (∀ b o, h0.get? b = some o → s'.heap.get? b = some o) → R (.ok (.ret .none)) s') →
      codeAny (model P w) A (.builtin "set.update.loop" ⟨[.ref S, .ref I], []⟩) R s := by
  have offW : S ∉ wr := fun z => off (W.sub _ z)
  have wider : ∀ b ∈ wr, b ∈ S :: wr := fun b => List.mem_cons_of_mem _
  have still : ∀ {s s' : Shared}, Moved wr G s s' → (∀ b o, h0.get? b = some o → s.heap.get? b = some o) → ∀ b o, h0.get? b = some o → s'.heap.get? b = some o := fun m q b o e =>
    m.heap b o (fun z => by rw [freeW b z] at e; cases e) (q b o e)
  intro k
  induction k with
  | zero =>
    intro i s hk' hi hst hkp hJ hR
    obtain rfl : i = items.size := by omega
    refine codeAny_builtin PyProof.Rows.F.entry_set_update_loop ?_
    rw [Around.under_plainId PyProof.Rows.F.plain_set_update_loop _]
    show wpAny _ A.in1 (pyNext (.ref I) >>= _) _ _ s
    refine wpAny_bind (W.done s _ _ hst fun s' m => ?_)
    show wpAny _ A.in1 (ret Value.none) _ _ s'
    exact wpAny_pure (hR s' (m.mono wider) ((T (fun _ _ => False)).keep _ _ _ hJ (fun o e => m.heap S o offW e) (still m hkp)) (still m hkp))
  | succ k ih =>
    intro i s hk' hi hst hkp hJ hR
    have lt : i < items.size := by omega
    refine codeAny_builtin PyProof.Rows.F.entry_set_update_loop ?_
    rw [Around.under_plainId PyProof.Rows.F.plain_set_update_loop _]
    show wpAny _ A.in1 (pyNext (.ref I) >>= _) _ _ s
    refine wpAny_bind (W.item i s _ _ lt hst fun v s' pv hst' m => ?_)
    have q := still m hkp
    show wpAny _ A.in1 (holding [v] (setAdd S v) >>= _) _ _ s'
    refine wpAny_bind (wpAny_holding ((T _).step A.in1 i v s' hu pv ((T (fun _ _ => False)).keep _ _ _ hJ (fun o e => m.heap S o offW e) q) q _ fun b h' tn sb J' => ?_))
    have q2 : ∀ b o, h0.get? b = some o → h'.get? b = some o := fun b o e => (sb.2 b (fun z => by rw [z, freeS] at e; cases e)).trans (q b o e)
    refine wpAny_pure ⟨plainId_quiet PyProof.Rows.F.plain_set_update_loop _, ih (i + 1) _ (by omega) lt (W.frame _ s' _ _ hst' (Nat.le_add_right _ _) fun b hb o e => ?_) q2 J' fun s'' m'' J'' q'' => ?_⟩
    · rw [sb.2 b (fun z : b = S => off (z ▸ hb))]; exact e
    · refine hR s'' (Moved.trans W.gtrans ((m.mono wider).then_heap (Nat.le_add_right _ _) fun b o hb e => ?_) m'') J'' q''
      rw [sb.2 b (fun z : b = S => hb (by rw [z]; exact List.mem_cons_self))]; exact e
abbrev newSet (w : World) : Obj := { cls := .type "set", dict := none, data := .set #[] 0 (.fresh 0 0 (!w.params.followText "set-order")) }
theorem free_above {h : Heap} {b : Addr} (hb : h.objs.size ≤ b) : h.get? b = none := by
  cases q : h.get? b with
  | none => rfl
  | some o => exact absurd (Nat.lt_of_lt_of_le (Heap.lt_size q) hb) (Nat.lt_irrefl _)
theorem set_of_seq {l : Addr} {items : Array Value} {Q : Value → Shared → Prop} {J : Nat → Heap → Prop} {ty it : String} {od : Option Addr} {nl : Nat} {os : Array (Option Value)} {St : Addr → Nat → Heap → Prop}
    (hol : s.heap.get? l = some { cls := .type ty, dict := od, data := .seq items nl, slots := os }) (n1 : isSubtype (.type ty) (.type "set") = pure false) (n2 : isSubtype (.type ty) (.type "frozenset") = pure false) (n3 : (Value.type ty == Value.type "dict") = false)
    (beg : ∀ {A : Around} {E : Value → Shared → Prop} {s1 : Shared} {Q : Value → Shared → Prop}, s1.heap.get? l = some { cls := .type ty, dict := od, data := .seq items nl, slots := os } → Q (.ref s1.heap.objs.size) { s1 with heap := s1.heap.push { cls := .type it, data := .fields #[.ref l, .int 0 0] } } → wpAny (model P w) A (pyIter (.ref l)) Q E s1)
    (W : ∀ I, l ≠ I → Walks P w A.in1.in1.in1 I [I, l] [I] items.size (fun i v => items[i]? = some v) (St I))
    (St0 : ∀ h : Heap, h.get? l = some { cls := .type ty, dict := od, data := .seq items nl, slots := os } → St h.objs.size 0 (h.push { cls := .type it, data := .fields #[.ref l, .int 0 0] })) (T : ∀ E, Fills P w (A.units + 3) E s.heap.objs.size items s.heap J)
    (h : ∀ (h' : Heap) (tk : Nat), J items.size h' → (∀ b o, s.heap.get? b = some o → h'.get? b = some o) → Q (.ref s.heap.objs.size) { s with heap := h', toks := tk }) :
    wpAny (model P w) A (call (.type "set") [.ref l]) Q E s := by
  obtain ⟨c, tl, m1⟩ := PySem.F.called_set.mro
  have m2 := PySem.F.called_set.made
  have m3 := PySem.F.called_set.sub
  refine wpAny_call (codeAny_of_tree ?_); show wpAny _ _ (callAny (.type "set") _) _ _ _
  refine wpAny_pure ⟨Code.quiet_builtin _ (by decide +kernel), codeAny_builtin PySem.F.entry_type_call ?_⟩
  rw [Around.under_plain (weight_type_call_type "set" [.ref l] []) rfl]
  have m4 := PySem.F.called_set.notType
  have m5 := PySem.F.called_set.canCreate
  have m6 := PySem.F.typeCall_set_1 (.ref l)
  repeat (any_goals (first | assumption | wp_step))
  refine codeAny_mono (code_set_led1 (.ref l) (E := E) (Q₁ := fun v s₁ => v = .ref s.heap.objs.size ∧ s₁ = { s with heap := s.heap.push (newSet w) }) ⟨rfl, rfl⟩) fun r s₁ hr => ?_
  cases r with
  | error e => exact hr
  | ok fl =>
    cases fl with
    | ret obj =>
      obtain ⟨rfl, rfl⟩ := hr
      have atS : (s.heap.push (newSet w)).get? s.heap.objs.size = some (newSet w) := Heap.get?_push_size _ rfl
      have tyS : Shared.TypeIs { s with heap := s.heap.push (newSet w) } (.ref s.heap.objs.size) "set" := ⟨_, atS, rfl⟩
      have m7 := PySem.F.called_set.init.lookup
      have m8 := PySem.F.called_set.init.bind (.ref s.heap.objs.size)
      repeat (any_goals (first | assumption | wp_step))
      refine codeAny_mono (codeAny_call_builtin (R := wants (fun r s₂ => r = .none ∧ ∃ h' tk, s₂ = { s with heap := h', toks := tk } ∧ J items.size h' ∧ (∀ b o, s.heap.get? b = some o → h'.get? b = some o)) E)
        PySem.F.called_set.init.plain PySem.F.entry_set_init (check_set_init_1 tyS ?_)) fun r₂ s₂ hr₂ => ?_
      · have hol' : (s.heap.push (newSet w)).get? l = some { cls := .type ty, dict := od, data := .seq items nl, slots := os } := Heap.get?_push_of_some _ hol
        unfold Builtin.«set.__init__» noKeywords Builtin.Frozenset.updateFrom
        generalize hPI : pyIter = PI
        wp_walk
        subst hPI
        refine beg hol' (wpAny_bind (wpAny_runValue ?_))
        have ll : l < s.heap.objs.size := Heap.lt_size hol
        have nI : l ≠ (s.heap.push (newSet w)).objs.size := by rw [Heap.size_push]; exact Nat.ne_of_lt (Nat.lt_succ_of_lt ll)
        have off : s.heap.objs.size ∉ [(s.heap.push (newSet w)).objs.size, l] := by
          rw [Heap.size_push]; simp only [List.mem_cons, List.not_mem_nil, or_false, not_or]
          exact ⟨Nat.ne_of_lt (Nat.lt_succ_self _), Nat.ne_of_gt ll⟩
        have up : ∀ b o, s.heap.get? b = some o → ((s.heap.push (newSet w)).push { cls := .type it, data := .fields #[.ref l, .int 0 0] }).get? b = some o := fun b o e => Heap.get?_push_of_some _ (Heap.get?_push_of_some _ e)
        refine fills_loop ((W _ nI).toS) off (free_above (Nat.le_refl _)) (fun b hb => free_above (by rw [List.mem_singleton.mp hb, Heap.size_push]; exact Nat.le_succ _)) (by simp) T (items.size - 0) 0 _ (by omega) (Nat.zero_le _)
          (St0 _ hol') up ((T (fun _ _ => False)).zero _ (Heap.get?_push_of_some _ atS) up) ?_
        intro s' m J' q'
        obtain ⟨h', g2, d', tk', os'⟩ := s'
        have eg : g2 = s.gens := m.gens
        have ed : d' = s.drawn := m.drawn
        have eo : os' = s.os := m.os
        subst eg; subst ed; subst eo
        show wpAny _ _ _ _ _ _
        refine wpAny_pure ?_; show wpAny _ _ (ret Value.none) _ _ _
        exact wpAny_pure ⟨rfl, h', tk', rfl, J', q'⟩
      · cases r₂ with
        | error e => exact hr₂
        | ok fl₂ =>
          cases fl₂ with
          | ret r =>
            obtain ⟨rfl, h', tk, rfl, J', q'⟩ := hr₂
            repeat (any_goals (first | assumption | wp_step))
            exact h _ _ J' q'
          | _ => exact hr₂.elim
    | _ => exact hr.elim
theorem set_of_list {l : Addr} {items : Array Value} {Q : Value → Shared → Prop} {J : Nat → Heap → Prop} (hh : A.handled = none) (hl : s.heap.IsList l items) (T : ∀ E, Fills P w (A.units + 3) E s.heap.objs.size items s.heap J)
    (h : ∀ (h' : Heap) (tk : Nat), J items.size h' → (∀ b o, s.heap.get? b = some o → h'.get? b = some o) → Q (.ref s.heap.objs.size) { s with heap := h', toks := tk }) :
    wpAny (model P w) A (call (.type "set") [.ref l]) Q E s := by
  obtain ⟨⟨oc, od, odata, os⟩, hol, hcl, nl, hdl⟩ := hl
  simp only at hcl hdl
  subst hcl; subst hdl
  exact set_of_seq hol PySem.F.sub_list_set PySem.F.sub_list_frozenset (by decide) (fun e q => wpAny_pyIter_list ⟨_, e, rfl, nl, rfl⟩ q) (fun I nI => Walks.list (by simp [hh]) I l nI items)
    (fun h e => ⟨⟨_, Heap.get?_push_size _ rfl, rfl, rfl⟩, ⟨_, Heap.get?_push_of_some _ e, rfl, nl, rfl⟩⟩) T h
theorem set_of_tuple {l : Addr} {items : Array Value} {Q : Value → Shared → Prop} {J : Nat → Heap → Prop} (hh : A.handled = none) (hl : s.heap.IsTuple l items) (T : ∀ E, Fills P w (A.units + 3) E s.heap.objs.size items s.heap J)
    (h : ∀ (h' : Heap) (tk : Nat), J items.size h' → (∀ b o, s.heap.get? b = some o → h'.get? b = some o) → Q (.ref s.heap.objs.size) { s with heap := h', toks := tk }) :
    wpAny (model P w) A (call (.type "set") [.ref l]) Q E s := by
  obtain ⟨⟨oc, od, odata, os⟩, hol, hcl, nl, hdl⟩ := hl
  simp only at hcl hdl
  subst hcl; subst hdl
  exact set_of_seq hol PySem.F.sub_tuple_set PySem.F.sub_tuple_frozenset (by decide) (fun e q => wpAny_pyIter_tuple ⟨_, e, rfl, nl, rfl⟩ q) (fun I nI => Walks.tuple (by simp [hh]) I l nI items)
    (fun h e => ⟨⟨_, Heap.get?_push_size _ rfl, rfl, rfl⟩, ⟨_, Heap.get?_push_of_some _ e, rfl, nl, rfl⟩⟩) T h
end
end CP
namespace CP
open PySem PySem.Spec PyProof.Rows L2
section
variable {P : Program} {w : World} {A : Around} {E : Value → Shared → Prop} {s : Shared}
end
section
variable {P : Program} {w : World} {κ : Type} [DecidableEq κ] (F : KF P w κ)
theorem fills_keys {S : Addr} {items : Array Value} {h0 : Heap} {ks : List (Addr × κ)} {u : Nat} {E : Value → Shared → Prop} (hu : u + 8 < cLine) (hit : items.toList = ks.map fun p => Value.ref p.1) (few : ks.length < 300) (hk : ∀ p ∈ ks, F.At h0 p.2 p.1) :
    Fills P w u E S items h0 (fun i h => (∃ L es ep t, SK F h S L es ep t ∧ Has ks i L)) := by
  have sub : ∀ {i : Nat} {L : List (Addr × κ)} {p : Addr × κ}, Has ks i L → p ∈ L → p ∈ ks := fun g hp => List.mem_of_mem_take (g.sub _ hp)
  refine ⟨fun h e _ => ⟨[], #[], 0, _, SK.new e, Has.none ks⟩, fun i h h' ⟨L, es, ep, t, R, g⟩ q1 q2 => ⟨L, es, ep, t, R.kept q1 fun p hp => F.kept (hk p (sub g hp)) q2, g⟩, ?_⟩
  intro A' i v s' hA hv ⟨L, es, ep, t, R, g⟩ q2 Q hQ
  obtain ⟨p, hp, rfl⟩ : ∃ p, ks[i]? = some p ∧ v = .ref p.1 := by
    have e : items.toList[i]? = some v := by rw [Array.getElem?_toList]; exact hv
    rw [hit, List.getElem?_map] at e
    cases hq : ks[i]? with
    | none => rw [hq] at e; cases e
    | some p => rw [hq] at e; exact ⟨p, rfl, (Option.some.inj e).symm⟩
  have hx : F.At s'.heap p.2 p.1 := F.kept (hk p (List.mem_of_getElem? hp)) q2
  unfold setAdd
  refine wpAny_holding (wpAny_bind (F.pyh (by omega) hx fun tn => ?_))
  have li : i < ks.length := (List.getElem?_eq_some_iff.mp hp).1
  refine put_in (s := { s' with toks := s'.toks + tn }) R hx (by omega) (by have := g.len; omega) fun b h' L' es' ep' t' sb R' c1 c2 => ?_
  exact hQ b h' tn sb ⟨L', es', ep', t', R', g.next hp c1 c2⟩
end
section
variable {P : Program} {w : World}
theorem txts_get {us : List Value} {xs : List Str} (r : Vals (xs.map V.str) us) (i : Nat) (v : Value) (e : us[i]? = some v) : ∃ x u, xs[i]? = some x ∧ v = .str x u := by
  have li : i < xs.length := by have := (List.getElem?_eq_some_iff.mp e).1; rw [← r.length, List.length_map] at this; exact this
  have hx : xs[i]? = some xs[i] := List.getElem?_eq_getElem li
  obtain ⟨u, e2, rv⟩ := r.get (i := i) (x := V.str xs[i]) (by rw [List.getElem?_map, hx]; rfl)
  rw [e] at e2; cases e2
  obtain ⟨t, rfl⟩ := rv
  exact ⟨_, t, hx, rfl⟩
theorem fills_txts {S : Addr} {items : Array Value} {h0 : Heap} {xs : List Str} {u : Nat} {E : Value → Shared → Prop} (hi : Vals (xs.map V.str) items.toList) (few : xs.length + 1 < scanBound) :
    Fills P w u E S items h0 (fun i h => ∃ n, h.SetOf (strKind P w) S (fun k => decide (k ∈ xs.take i)) n ∧ n ≤ i ∧ (xs.Nodup → n = i) ∧ (n = i → (xs.take i).Nodup)) := by
  refine ⟨fun h e _ => ⟨0, ?_, Nat.le_refl _, fun _ => rfl, fun _ => List.nodup_nil⟩, fun i h h' ⟨n, R, c⟩ q1 _ => ⟨n, ?_, c⟩, ?_⟩
  · exact SetOf_congr ((setObjOf_fresh (knd := strKind P w) _).setOf e (by unfold scanBound; omega)) (fun k => by simp) rfl
  · obtain ⟨o, es, ep, tb, ho, rest⟩ := R
    exact ⟨o, es, ep, tb, q1 o ho, rest⟩
  · intro A' i v s' _ hv ⟨n, R, c1, c2, c3⟩ _ Q hQ
    obtain ⟨x, u, hx, rfl⟩ := txts_get hi i v (by rw [Array.getElem?_toList]; exact hv)
    have li : i < xs.length := (List.getElem?_eq_some_iff.mp hx).1
    unfold setAdd
    refine wpAny_holding (wpAny_bind ((strKind P w).pyHash (k := x) (strKind_is _ _ _ _) ?_))
    refine wpAny_setAddHashed_of (knd := strKind P w) (s := { s' with toks := s'.toks + 1 }) (strKind_is _ _ _ _) rfl R (by omega) fun h' sb R' => ?_
    refine hQ _ h' 1 sb ⟨_, SetOf_congr R' (fun k => ?_) rfl, ?_, fun nd => ?_, fun z => ?_⟩
    · rw [take_one hx]; simp [Bool.decide_or]
    · split <;> omega
    · have : x ∉ xs.take i := fun z => by
        obtain ⟨j, hj⟩ := List.getElem?_of_mem z
        have hji : j < i := Nat.lt_of_lt_of_le (List.getElem?_eq_some_iff.mp hj).1 (List.length_take_le _ _)
        rw [List.getElem?_take_of_lt hji] at hj
        obtain ⟨b1, e1⟩ := List.getElem?_eq_some_iff.mp hj
        obtain ⟨b2, e2⟩ := List.getElem?_eq_some_iff.mp hx
        exact (List.pairwise_iff_getElem.mp nd) j i b1 b2 hji (e1.trans e2.symm)
      rw [decide_eq_false this]; simp [c2 nd]
    · by_cases c : x ∈ xs.take i
      · rw [decide_eq_true c, if_pos rfl] at z; omega
      · rw [decide_eq_false c, if_neg (by decide)] at z
        rw [take_one hx]
        refine List.nodup_append.mpr ⟨c3 (by omega), by simp, fun y hy y' hy' e => c ?_⟩
        simp at hy'
        rw [← hy', ← e]; exact hy
end
section
variable {X : Cx} {e : Expr} {te : TE} {p p2 q pos : Pos}
theorem refs_only : ∀ {κ : Type} {ks : List (Addr × κ)} {us : List Value}, Vals (ks.map fun p => V.ref p.1) us → us = ks.map fun p => Value.ref p.1
  | _, [], us, r => by cases r; rfl
  | _, p :: ks, us, r => by
    cases r with
    | @cons _ u _ us h1 h2 =>
      obtain rfl : u = Value.ref p.1 := h1
      rw [refs_only h2]; rfl
end
end CP
namespace CP
open PySem PySem.Spec PyProof.Rows L2
abbrev PP := (Str × Str) × (Str × Str)
def nk (p : PP) : NestedKey := .tup [.tup [.text p.1.1, .text p.1.2], .tup [.text p.2.1, .text p.2.2]]
section
variable {P : Program} {w : World}
def ClsAt (P : Program) (w : World) (n : Nat) (s : Shared) (v : Value) : Prop := ∀ (A : Around) (E : Value → Shared → Prop) (Q : Bool → Shared → Prop), Q false s → wpAny (model P w) A (ofAClassStatement n v) Q E s
def HbyAt (P : Program) (w : World) (n : Nat) (s : Shared) (v : Value) : Prop := ∀ (A : Around) (E : Value → Shared → Prop) (Q : Bool → Shared → Prop), (∀ b, Q b s) → wpAny (model P w) A (hashByValue n v) Q E s
theorem ClsAt.tup {n : Nat} {s : Shared} {b : Addr} {o : Obj} {vs : Array Value} {m : Nat} (ho : s.heap.get? b = some o) (hc : o.cls = .type "tuple") (hd : o.data = .seq vs m) (each : ∀ v ∈ vs.toList, ClsAt P w n s v) : ClsAt P w (n + 1) s (.ref b) := fun A E Q h => by
  have ty : s.TypeIs (.ref b) "tuple" := ⟨o, ho, hc⟩
  unfold ofAClassStatement
  refine wpAny_bind (wpAny_typeOf ty ?_); dsimp only
  have e : (("tuple" : String) == "tuple") = true := by decide
  simp only [e, if_true, Bool.not_true, Bool.false_eq_true, if_false]
  try refine wpAny_bind (wpAny_pure ?_)
  try simp only [Bool.not_true, Bool.false_eq_true, if_false]
  refine wpAny_bind (m := seqItems? (.ref b)) (wpAny_seqItems ho hd ?_); dsimp only
  refine wpAny_bind ?_; show wpAny _ _ (forIn vs _ _) _ _ s
  rw [← Array.forIn_toList]
  refine wpAny_forIn_list _ (fun rest r s' => r.1 = none ∧ s' = s ∧ ∀ v ∈ rest, ClsAt P w n s v) _ ?_ ?_ _ _ ⟨rfl, rfl, each⟩
  · rintro v rest r s' ⟨hr, rfl, all⟩
    refine wpAny_bind (all v List.mem_cons_self _ _ _ ?_); simp only [Bool.false_eq_true, if_false]
    exact wpAny_pure ⟨rfl, rfl, fun y hy => all y (List.mem_cons_of_mem _ hy)⟩
  · rintro ⟨r1, r2⟩ s' ⟨hr, rfl, _⟩
    simp only at hr; subst hr
    exact wpAny_pure h
theorem HbyAt.tup {n : Nat} {s : Shared} {b : Addr} {o : Obj} {vs : Array Value} {m : Nat} (ho : s.heap.get? b = some o) (hc : o.cls = .type "tuple") (hd : o.data = .seq vs m) (each : ∀ v ∈ vs.toList, HbyAt P w n s v) : HbyAt P w (n + 1) s (.ref b) := fun A E Q h => by
  have ty : s.TypeIs (.ref b) "tuple" := ⟨o, ho, hc⟩
  unfold hashByValue
  refine wpAny_bind (wpAny_specialOf ty PySem.F.slot_tuple_hash.lookup ?_)
  refine wpAny_bind (m := seqItems? (.ref b)) (wpAny_seqItems ho hd (wpAny_bind ?_)); show wpAny _ _ (forIn vs _ _) _ _ s
  rw [← Array.forIn_toList]
  refine wpAny_forIn_list _ (fun rest r s' => (r.1 = none ∨ r.1 = some false) ∧ s' = s ∧ ∀ v ∈ rest, HbyAt P w n s v) _ ?_ ?_ _ _ ⟨.inl rfl, rfl, each⟩
  · rintro v rest r s' ⟨hr, rfl, all⟩
    refine wpAny_bind (all v List.mem_cons_self _ _ _ fun c => ?_)
    cases c
    · simp only [Bool.not_false, if_true]
      exact wpAny_pure (wpAny_pure (h _))
    · simp only [Bool.not_true, Bool.false_eq_true, if_false]
      exact wpAny_pure ⟨.inl rfl, rfl, fun y hy => all y (List.mem_cons_of_mem _ hy)⟩
  · rintro ⟨r1, r2⟩ s' ⟨hr, rfl, _⟩
    simp only at hr
    rcases hr with rfl | rfl
    · exact wpAny_pure (h _)
    · exact wpAny_pure (h _)
end
def PpH (H : Hp) (b : Addr) (k : PP) : Prop := ∃ e f, H b = some (.tup [.ref e, .ref f]) ∧ H e = some (.tup [.str k.1.1, .str k.1.2]) ∧ H f = some (.tup [.str k.2.1, .str k.2.2])
theorem PpH.same {H H' : Hp} {b : Addr} {k : PP} (h : PpH H b k) (s : Same H H') : PpH H' b k := let ⟨e, f, x, y, z⟩ := h; ⟨e, f, s _ _ x, s _ _ y, s _ _ z⟩
theorem PpH.upd {H : Hp} {a b : Addr} {k : PP} {o o' : HO} (h : PpH H b k) (ha : H a = some o) (n : ∀ xs, o ≠ .tup xs) : PpH (L2.upd H a o') b k := by
  obtain ⟨e, f, x, y, z⟩ := h
  have ne : ∀ {c : Addr} {xs : List V}, H c = some (.tup xs) → c ≠ a := fun hc q => by rw [q, ha] at hc; exact n _ (Option.some.inj hc)
  exact ⟨e, f, by rw [upd_ne (ne x)]; exact x, by rw [upd_ne (ne y)]; exact y, by rw [upd_ne (ne z)]; exact z⟩
section
variable {X : Cx} {pins : List (Addr × Obj)} {σ : L2.St} {H : Hp} {s : Shared}
end
end CP
namespace CP
open PySem PySem.Spec PyProof.Rows L2
section
variable {X : Cx} {o e : Expr} {es : List Expr} {to : TE} {t : TA} {apos cpos : Pos}
end
end CP
namespace CP
open PySem PySem.Spec PyProof.Rows L2
abbrev Cn := List (PP × Addr × V)
def valN (xs : Cn) (k : PP) : Option V := (xs.find? fun x => decide (x.1 = k)).map (·.2.2)
def putN (xs : Cn) (k : PP) (b : Addr) (v : V) : Cn := if (valN xs k).isSome = true then xs.map (fun x => if x.1 = k then (x.1, x.2.1, v) else x) else xs ++ [(k, b, v)]
def LikeN (x : PP × Addr × V) (u : NestedKey × Addr × Value) : Prop := u.1 = nk x.1 ∧ u.2.1 = x.2.1 ∧ RelV x.2.2 u.2.2
theorem valN_cons (x : PP × Addr × V) (xs : Cn) (k : PP) : valN (x :: xs) k = if x.1 = k then some x.2.2 else valN xs k := by
  unfold valN
  by_cases c : x.1 = k <;> simp [List.find?_cons, c]
theorem valN_map (k j : PP) (v : V) : ∀ xs : Cn, valN (xs.map fun x => if x.1 = k then (x.1, x.2.1, v) else x) j = if j = k then (valN xs k).map (fun _ => v) else valN xs j
  | [] => by by_cases c : j = k <;> simp [valN, c]
  | x :: xs => by
    rw [List.map_cons, valN_cons, valN_map k j v xs, valN_cons, valN_cons]
    by_cases c : x.1 = k
    · by_cases d : j = k
      · subst d; simp [c]
      · have : ¬ k = j := fun z => d z.symm
        simp [c, d, this]
    · by_cases d : j = k
      · subst d; simp [c]
      · simp [c, d]
theorem valN_snoc (k j : PP) (b : Addr) (v : V) : ∀ xs : Cn, valN xs k = none → valN (xs ++ [(k, b, v)]) j = if j = k then some v else valN xs j
  | [], _ => by
    show valN [(k, b, v)] j = _
    rw [valN_cons]
    by_cases c : j = k
    · subst c; simp
    · have : ¬ k = j := fun z => c z.symm
      simp [this, c]
  | x :: xs, h => by
    rw [valN_cons] at h
    by_cases c : x.1 = k
    · rw [if_pos c] at h; cases h
    · rw [if_neg c] at h
      rw [List.cons_append, valN_cons, valN_snoc k j b v xs h, valN_cons]
      by_cases d : j = k
      · subst d; simp [c]
      · simp [d]
theorem valN_put (xs : Cn) (k j : PP) (b : Addr) (v : V) : valN (putN xs k b v) j = if j = k then some v else valN xs j := by
  unfold putN
  cases e : valN xs k with
  | none => rw [if_neg (by decide)]; exact valN_snoc k j b v xs e
  | some v0 => rw [if_pos (by rfl), valN_map, e]; rfl
theorem putN_len (xs : Cn) (k : PP) (b : Addr) (v : V) : (putN xs k b v).length ≤ xs.length + 1 := by
  unfold putN; split
  · rw [List.length_map]; omega
  · rw [List.length_append]; simp
theorem putN_old {xs : Cn} {k : PP} (h : (valN xs k).isSome = true) (b : Addr) (v : V) : (putN xs k b v).length = xs.length := by
  unfold putN; rw [if_pos h, List.length_map]
theorem putN_mem {xs : Cn} {k : PP} {b : Addr} {v : V} {x : PP × Addr × V} (h : x ∈ putN xs k b v) : (x.1 = k ∧ x.2.1 = b) ∨ ∃ y ∈ xs, x.1 = y.1 ∧ x.2.1 = y.2.1 := by
  unfold putN at h; split at h
  · obtain ⟨y, hy, rfl⟩ := List.mem_map.mp h
    refine .inr ⟨y, hy, ?_⟩
    split <;> exact ⟨rfl, rfl⟩
  · rcases List.mem_append.mp h with h | h
    · exact .inr ⟨x, h, rfl, rfl⟩
    · rw [List.mem_singleton.mp h]; exact .inl ⟨rfl, rfl⟩
def DctIn (P : Program) (w : World) (a : Addr) (xs : Cn) (h : Heap) : Prop :=
  ∃ o es ep us, h.get? a = some o ∧ o.ExactDict ∧ o.data = .dict es ep ∧ es.toList = us.map (entryOfKey (nestedKind P w)) ∧ (us.map (·.1)).Nodup ∧ Paired LikeN xs us
def DctN (P : Program) (w : World) (a : Addr) (xs : Cn) : HO := .ext (DctIn P w a xs)
def DN (P : Program) (w : World) (H : Hp) (d : Addr) (g : PP → Option V) (n : Nat) : Prop := ∃ xs, H d = some (DctN P w d xs) ∧ (∀ x ∈ xs, PpH H x.2.1 x.1) ∧ (∀ k, valN xs k = g k) ∧ xs.length ≤ n
theorem DN.same {P : Program} {w : World} {H H' : Hp} {d : Addr} {g : PP → Option V} {n : Nat} (h : DN P w H d g n) (s : Same H H') : DN P w H' d g n := by
  obtain ⟨xs, a, b, c, e⟩ := h
  exact ⟨xs, s _ _ a, fun x hx => (b x hx).same s, c, e⟩
theorem DN.new {P : Program} {w : World} {H : Hp} {d : Addr} : DN P w (L2.upd H d (DctN P w d [])) d (fun _ => none) 0 := ⟨[], upd_same, (fun _ z => nomatch z), fun _ => rfl, Nat.le_refl _⟩
theorem no_tup {f : Heap → Prop} : ∀ xs : List V, (HO.ext f) ≠ .tup xs := fun xs z => by cases z
theorem PpH.new {H : Hp} {d b : Addr} {k : PP} {o : HO} (h : PpH H b k) (hd : H d = none) : PpH (L2.upd H d o) b k := h.same fun c u e => by rw [upd_ne (ne_of_none e hd)]; exact e
section
variable {X : Cx} {pins : List (Addr × Obj)} {σ : L2.St} {H : Hp} {s : Shared}
theorem DN.put {P : Program} {w : World} {d b : Addr} {k : PP} {g : PP → Option V} {n : Nat} {v : V} {xs : Cn} (h1 : H d = some (DctN P w d xs)) (h2 : ∀ x ∈ xs, PpH H x.2.1 x.1) (h3 : ∀ k, valN xs k = g k) (h4 : xs.length ≤ n) (hb : PpH H b k) :
    DN P w (L2.upd H d (DctN P w d (putN xs k b v))) d (fun j => if j = k then some v else g j) (if (g k).isSome = true then n else n + 1) := by
  refine ⟨_, upd_same, fun x hx => ?_, fun j => by rw [valN_put, h3], ?_⟩
  · rcases putN_mem hx with ⟨e1, e2⟩ | ⟨y, hy, e1, e2⟩
    · rw [e1, e2]; exact hb.upd h1 no_tup
    · rw [e1, e2]; exact (h2 y hy).upd h1 no_tup
  · by_cases c : (g k).isSome = true
    · rw [if_pos c, putN_old (by rw [h3]; exact c)]; exact h4
    · rw [if_neg c]; exact Nat.le_trans (putN_len _ _ _ _) (by omega)
end
end CP
namespace CP
open PySem PySem.Spec PyProof.Rows L2
section
variable {X : Cx}
end
end CP
namespace CP
open PySem PySem.Spec PyProof.Rows L2
section
variable {X : Cx} (P : Program) (w : World)
end
end CP
namespace CP
open PySem PySem.Spec PyProof.Rows L2
def TkH (H : Hp) (b : Addr) (k : List Str) : Prop := H b = some (.tup (k.map V.str))
theorem TkH.same {H H' : Hp} {b : Addr} {k : List Str} (h : TkH H b k) (s : Same H H') : TkH H' b k := s _ _ h
theorem TkH.upd {H : Hp} {a b : Addr} {k : List Str} {o o' : HO} (h : TkH H b k) (ha : H a = some o) (n : ∀ xs, o ≠ .tup xs) : TkH (L2.upd H a o') b k := by
  unfold TkH; rw [upd_ne (fun q => by have h' : H b = _ := h; rw [q, ha] at h'; exact n _ (Option.some.inj h'))]; exact h
section
variable {X : Cx} {pins : List (Addr × Obj)} {σ : L2.St} {H : Hp} {s : Shared}
end
end CP
namespace CP
open PySem PySem.Spec PyProof.Rows L2
section
variable {X : Cx} {o e : Expr} {es : List Expr} {to : TE} {t : TA} {apos cpos : Pos}
end
end CP
namespace CP
open PySem PySem.Spec PyProof.Rows L2
section
variable {X : Cx} (P : Program) (w : World)
end
end CP
namespace CP
open PySem L2
open AutoSeq1 (wpAny_loadPart')
theorem new_enumT (l : Addr) (items : Array Value) (n : Nat) (dct : Option Addr) (sl : Array (Option Value)) :
    Meets (Builtin.«enumerate.__new__» ⟨[.type "enumerate", .ref l], []⟩) (fun _ R s => s.heap.get? l = some { cls := .type "tuple", dict := dct, data := .seq items n, slots := sl } ∧
      R (.ok (.ret (.ref (s.heap.push { cls := .type "tuple_iterator", data := .fields #[.ref l, .int 0 0] }).objs.size)))
        { s with heap := (s.heap.push { cls := .type "tuple_iterator", data := .fields #[.ref l, .int 0 0] }).push { cls := .type "enumerate", data := .fields #[.none, .bool false, .ref s.heap.objs.size, rawInt 0, .none, .none] } }) :=
  .of_wp fun prog w A R s h => by
    obtain ⟨hp, g, d, tk, os⟩ := s; obtain ⟨hl, h⟩ := h
    have m1 := sub_enumerate
    have hT : Heap.IsTuple (Shared.heap ⟨hp, g, d, tk, os⟩) l items := ⟨_, hl, rfl, n, rfl⟩
    wp_walk using wpAny_loadPart' hl
    refine wpAny_stack_any fun st => wpAny_pure ?_
    split
    · rename_i c _ _ _ _ _
      cases (c == Value.type "enumerate") <;> (wp_walk using wpAny_loadPart' hl, wpAny_pyIter_tuple hT; exact ⟨_, rfl, h⟩)
    · wp_walk using wpAny_loadPart' hl, wpAny_pyIter_tuple hT
      exact ⟨_, rfl, h⟩
section
variable {prog : Program} {w : World} {A : Around} {E : Value → Shared → Prop} {s : Shared}
abbrev tupIt (l : Addr) : Obj := { cls := .type "tuple_iterator", data := .fields #[.ref l, .int 0 0] }
abbrev enumOb (it : Addr) : Obj := { cls := .type "enumerate", data := .fields #[.none, .bool false, .ref it, rawInt 0, .none, .none] }
theorem call_enumT {l : Addr} {items : Array Value} {Q : Value → Shared → Prop} (hT : s.heap.IsTuple l items)
    (h : ∀ h', IsEnum h' (s.heap.objs.size + 1) s.heap.objs.size 0 .none → h'.IsTupleIter s.heap.objs.size l 0 → (∀ b o, s.heap.get? b = some o → h'.get? b = some o) → Q (.ref (s.heap.objs.size + 1)) { s with heap := h' }) :
    wpAny (model prog w) A (call (.type "enumerate") [.ref l]) Q E s := by
  obtain ⟨⟨c, dct, dt, sl⟩, hl, hc, n, hd⟩ := hT
  simp only at hc hd
  subst hc hd
  refine callType_new F.called_enumerate (by decide) (F.typeCall_enumerate_1 _) (F.newCall_enumerate_1 _) (fun obj => F.args_object_init_2 obj _) F.entry_enumerate_new (new_enumT l items n dct sl) ⟨hl, ?_⟩
  have hz : (s.heap.push (tupIt l)).objs.size = s.heap.objs.size + 1 := Heap.size_push ..
  show _ ∧ _
  rw [hz]
  have he : IsEnum ((s.heap.push (tupIt l)).push (enumOb s.heap.objs.size)) (s.heap.objs.size + 1) s.heap.objs.size 0 .none := by
    have q := Heap.get?_push_size (s.heap.push (tupIt l)) (o := enumOb s.heap.objs.size) rfl
    rw [hz] at q; exact q
  exact ⟨⟨_, he, rfl⟩, h _ he ⟨_, Heap.get?_push_of_some _ (Heap.get?_push_size _ rfl), rfl, rfl⟩ fun b o x => Heap.get?_push_of_some _ (Heap.get?_push_of_some _ x)⟩
end
def ItT (K : PySem.W.Frag) (a : Addr) : It :=
  ⟨fun i H => ∃ (xs : List V) (x : V), SqT K H a xs ∧ xs[i]? = some x, fun i H v H' => ∃ T x, v = .ref T ∧ H T = none ∧ H' = L2.upd H T (.tup [.int (i : Nat), x]) ∧ ∀ xs, SqT K H a xs → xs[i]? = some x, fun i H => ∃ xs : List V, SqT K H a xs ∧ xs.length = i⟩
theorem walk_enumT {K : PySem.W.Frag} {a : Addr} {xs : List V} : Walk (ItT K a) xs.length (fun H => SqT K H a xs) (YPair (fun i => some (.int (i : Nat))) (fun i => xs[i]?)) := by
  refine ⟨fun i _ hi q => ⟨xs, xs[i], q, by simp [hi]⟩, fun _ q => ⟨xs, q, rfl⟩, fun i H v H' _ q y => ?_⟩
  obtain ⟨T, x, h1, h2, h3, h4⟩ := y
  exact ⟨T, _, x, h1, h2, h3, rfl, h4 xs q⟩
theorem turn_enumT {P : Program} {w : World} {K : PySem.W.Frag} {elts : List Expr} {kk : Nat} {tpos : Pos} (a e it : Addr) :
    Turn P w K (.Tuple elts kk tpos) (ItT K a) [e, it] e (fun i h => (∃ old, IsEnum h e it ((i : Nat) : Int) old) ∧ h.IsTupleIter it a i ∧ e ≠ it) where
  mem := by simp
  obj := fun i h ⟨⟨old, he⟩, ⟨o, ho, hc, hd⟩, _⟩ b hb => by
    rcases (show b = e ∨ b = it by simpa using hb) with rfl | rfl
    · exact ⟨_, he, fun v q => nomatch q⟩
    · exact ⟨o, ho, fun v q => by rw [hd] at q; cases q⟩
  keep := fun i h h' ⟨⟨old, he⟩, hi, hne⟩ k => ⟨⟨old, k e (by simp) _ he⟩, hi.at fun o q => k it (by simp) o q, hne⟩
  item := by
    intro X hP hw hK hc i pins s σ H E I hf ⟨⟨old, he⟩, hit, hne⟩ ⟨xs, x, hq, hx⟩
    subst hP hw hK
    obtain ⟨its, rv, p, hz⟩ := I.tuple hq
    obtain ⟨u, hu, ru⟩ := rv.get hx
    have hel : e < s.heap.objs.size := Heap.lt_size he
    have hil : it < s.heap.objs.size := by obtain ⟨_, q, _⟩ := hit; exact Heap.lt_size q
    have ea : e ≠ a := fun z => by
      obtain ⟨o, ho, hc2, _⟩ := p
      rw [← z, he] at ho; cases ho; injection hc2 with hc2; exact absurd hc2 (by decide)
    have ia : a ≠ it := fun z => by
      obtain ⟨o, ho, hc2, _⟩ := p
      obtain ⟨o2, ho2, hc3, _⟩ := hit
      rw [z, ho2] at ho; cases ho; rw [hc3] at hc2; injection hc2 with hc2; exact absurd hc2 (by decide)
    have hiu : its.toArray[i]? = some u := by simpa using hu
    have li : i < its.toArray.size := (Array.getElem?_eq_some_iff.mp hiu).1
    refine wpAny_pyNext_enum_itemD (Draws.tuple (A := X.A.in1) (by simp [I.ok.hd hc]) it a ia its.toArray) he ⟨hit, p⟩ li hne (by simp [hne, ea]) fun x' h' tk px ho st' hT hsz hk => ?_
    obtain rfl : x' = u := Option.some.inj (px.symm.trans hiu)
    refine ⟨_, rfl, wpAny_letOwnedTupleGo_enum (s := { s with heap := h', toks := tk + 1 }) ho fun h'' he' sb => ?_⟩
    have hT2 : h''.get? s.heap.objs.size = some { cls := .type "tuple", data := .seq #[.int i tk, x'] } := (sb.2 _ (Nat.ne_of_gt hel)).trans hT
    have new : ObjOk X.prog X.w (L2.upd H s.heap.objs.size (.tup [.int (i : Nat), x])) h'' s.heap.objs.size (.tup [.int (i : Nat), x]) :=
      ⟨by show 2 ≤ sizeLine; decide, [.int i tk, x'], .cons ⟨_, rfl⟩ (.cons ru .nil), ⟨_, hT2, rfl, _, rfl⟩⟩
    have I1 : L2.Inv X pins σ (L2.upd H s.heap.objs.size (.tup [.int (i : Nat), x])) { s with heap := h'', toks := tk + 1 } :=
      I.turnedNew (ch := [e, it]) (fun b ob hb q => (sb.2 b (fun z => hb (by simp [z]))).trans (hk b ob (fun z => hb (by simp [z])) (fun z => hb (by simp [z])) q)) hf (Nat.le_refl _) new
    refine ⟨.ref s.heap.objs.size, _, I1, rfl, ⟨_, x, rfl, I.hok.fresh (Nat.le_refl _), rfl, fun ys hy => by rw [I.tuple_inj hy hq]; exact hx⟩, ⟨⟨x', ?_⟩, st'.1.at fun o q => (sb.2 it (Ne.symm hne)).trans q, hne⟩, fun b hb => ?_⟩
    · rw [show ((i + 1 : Nat) : Int) = (i : Int) + 1 by omega]; exact he'
    · have hb' : b < s.heap.objs.size := by
        rcases (show b = e ∨ b = it by simpa using hb) with rfl | rfl
        · exact hel
        · exact hil
      rw [upd_ne (Nat.ne_of_lt hb')]
      exact (hf b hb).1
  done := by
    intro X hP hw hK hc i pins s σ H E I hf ⟨⟨old, he⟩, hit, hne⟩ ⟨xs, hq, hx⟩
    subst hP hw hK
    obtain ⟨its, rv, p, hz⟩ := I.tuple hq
    obtain ⟨f0, f1, f2, f3, f4, f5⟩ := hf it (by simp)
    have hl := rv.length
    have ia : a ≠ it := fun z => by
      obtain ⟨o, ho, hc2, _⟩ := p
      obtain ⟨o2, ho2, hc3, _⟩ := hit
      rw [z, ho2] at ho; cases ho; rw [hc3] at hc2; injection hc2 with hc2; exact absurd hc2 (by decide)
    have ei : i = its.toArray.size := by rw [List.size_toArray]; omega
    rw [ei] at hit
    exact wpAny_pyNext_enum_endD (Draws.tuple (A := X.A.in1) (by simp [I.ok.hd hc]) it a ia its.toArray) he ⟨hit, p⟩ fun h' eb => ⟨rfl, I.turned (t' := s.toks) (fun b o hb q => eb b o hb q) f0 f1 f3 f4 f5⟩
  self := fun A i s Q E ⟨⟨_, he⟩, _⟩ h => wpAny_pyIter_enum he h
end CP
namespace CP
open PySem PySem.Spec PyProof.Rows L2
section
variable {P : Program} {w : World} {K : PySem.W.Frag} {mg : Str → Option Value} {base : Heap}
end
section
variable {X : Cx} {x : Str} {p pos : Pos} {e : Expr} {es : List Expr} {t : TA} {k : Nat} {f : Addr} {fd : FuncData} {ps : List Str} {sp : Sp}
end
end CP
namespace CP
open PySem PySem.Spec PyProof.Rows L2
end CP
namespace CP
open PySem PySem.Spec PyProof.Rows L2
structure XCls (K : PySem.W.Frag) (C : Addr) : Prop where
  cl : (PySem.W.clsIn K C).isSome = true
  ga : PySem.W.findIn K (.ref C) "__getattribute__" = some (some (.builtin "BaseException.__getattribute__"))
  gg : PySem.W.findIn K (.ref C) "__getattr__" = some none
  sb : PySem.W.subIn K (.ref C) (.type "BaseException") = some true
  hd : PySem.W.hasDictIn K C = true
  ca : PySem.W.findIn K (.ref C) "__class__" = some (some (.builtin "object.__class__"))
  sg : PySem.W.specialIn K (.builtin "object.__class__") "__get__" = some (some (.builtin "getset_descriptor.__get__"))
  tk : PySem.W.takesIn K (.builtin "object.__class__") = some true
  mo : PySem.W.mroIn K C (.type "object") = some true
section
variable {X : Cx} {pins : List (Addr × Obj)} {σ : L2.St} {H : Hp} {s : Shared}
end
end CP
namespace CP
open PySem PySem.W PyProof.Rows L2
section
variable {prog : Program} {w : World} {A : Around} {E : Value → Shared → Prop} {s : Shared}
abbrev lst0 : Obj := seqObj "list" #[] 0
theorem gather_tup {t : Addr} {us : List Value} {R : List Value → Shared → Prop} (ht : s.heap.IsTuple t us.toArray) (few : us.length ≤ sizeLine)
    (k : R us { s with heap := (s.heap.push lst0).update s.heap.objs.size (Obj.mapSeq (· ++ us.toArray)) }) : wpAny (model prog w) A (collect (.ref t)) R E s := by
  obtain ⟨ot, g1, g2, m, g3⟩ := id ht
  unfold collect
  refine wpAny_bind (wpAny_runValue (codeAny_builtin entry_proto_collect' ?_))
  show wpAny _ _ (do PySem.again (.builtin "list.__iadd__" ⟨[← newList [], .ref t], []⟩)) _ _ s
  refine wpAny_bind (wpAny_newList (wpAny_pure ⟨Code.quiet_builtin _ (by decide +kernel), codeAny_builtin entry_list_iadd' ?_⟩))
  show wpAny _ _ (Builtin.List.listExtendWith (.ref s.heap.objs.size) (.ref t) (.ref s.heap.objs.size)) _ _ { s with heap := s.heap.push lst0 }
  unfold Builtin.List.listExtendWith
  have g1' : (s.heap.push lst0).get? t = some ot := Heap.get?_push_of_some _ g1
  refine wpAny_bind (wpAny_typeOf (T := "tuple") ⟨ot, g1', g2⟩ ?_)
  have tt : (Value.type "tuple" == Value.type "tuple") = true := by rfl
  rw [if_pos (by rw [tt]; simp)]
  refine wpAny_bind (listItems_at g1' g3 ?_)
  refine wpAny_bind (listItems_at (xs := #[]) (n := 0) (Heap.get?_push_size _ rfl) rfl ?_)
  rw [if_neg (by simp)]
  refine wpAny_bind (listUpdate_at (xs := #[]) (n := 0) (Heap.get?_push_size _ rfl) rfl ?_ (Nat.zero_le _) (by
    show (#[] ++ us.toArray).size ≤ sizeLine + 1
    simp only [Array.size_append, List.size_toArray, List.length_nil]; omega))
  refine wpAny_pure ?_
  refine wpAny_bind (wpAny_load (get?_update_seq (Heap.get?_push_size _ rfl) _) ?_)
  show wpAny _ _ (pure ((#[] : Array Value) ++ us.toArray).toList) R E _
  have e : ((#[] : Array Value) ++ us.toArray).toList = us := by simp
  rw [e]
  exact wpAny_pure k
end
section
variable {prog : Program} {w : World} {A : Around} {E : Value → Shared → Prop} {s : Shared} {β : Type} {enc : β → PyData} {R : Value → β → Prop} {vs : List Value} {bs : List β}
theorem sorted_dataT {l : Addr} {Q : Value → Shared → Prop} (hl : s.heap.IsTuple l vs.toArray) (e : EachIs R vs bs) (er : EachIs (fun v b => ∃ as, Reads s.heap v (enc b) as) vs bs) (hal : AllAlike (bs.map enc)) (hk : Sortable (bs.map enc)) (hL : bs.length ≤ sizeLine)
    (hu : ∀ b, b ∈ bs → A.units + 2 + (enc b).depth < cLine) (h : ∀ out, out.length = bs.length → EachIs R out (bs.mergeSort (dataLe false enc)) → Q (.ref (s.heap.objs.size + 1)) { s with heap := sortedAll s.heap vs (List.toArray out) }) : wpAny (model prog w) A (call (.builtin "sorted") [.ref l]) Q E s := by
  have er' : EachIs (fun v b => ∃ as, Reads (sortingHeap (copyHeap s.heap vs) (s.heap.objs.size + 1) vs) v (enc b) as) vs bs := er.mono fun _ _ ⟨as, r⟩ => ⟨as, Reads.keeps (fun _ _ => sorting_copy_old) r⟩
  have hV : vs.length ≤ sizeLine := by rw [e.length]; exact hL
  refine call_function_entry_kw kind_sorted plain_sorted entry_sorted (args_sorted1 _) ?_
  unfold Builtin.«sorted»
  refine wpAny_bind (m := checkCount "sorted" 1 1 _) (wpAny_pure ?_)
  refine wpAny_bind (gather_tup hl hV ?_)
  refine wpAny_bind (wpAny_newList ?_ hV)
  have z : ((s.heap.push lst0).update s.heap.objs.size (Obj.mapSeq (· ++ vs.toArray))).objs.size = s.heap.objs.size + 1 := by
    rw [Heap.size_update, size_push']
  show wpAny _ _ _ _ _ { s with heap := copyHeap s.heap vs }
  rw [z]
  have S := SortsAt.data (prog := prog) (w := w) (A := A.in1.in1) (s := { s with heap := sortingHeap (copyHeap s.heap vs) (s.heap.objs.size + 1) vs }) (each_map (R := fun v d => ∃ as, Reads (sortingHeap (copyHeap s.heap vs) (s.heap.objs.size + 1) vs) v d as) enc er') hal hk (bound_map hu)
  refine wpAny_bind (wpAny_holding (wpAny_call_entry_kw slot_list_sort ⟨_, copyHeap_at s.heap vs, rfl⟩ entry_list_sort (list_sort_vals (s := { s with heap := copyHeap s.heap vs }) (copyHeap_at s.heap vs) S hV ?_) (args_list_sort _)))
  exact ⟨_, rfl, wpAny_pure ⟨_, rfl, h _ (by rw [sortVals_length false rfl]; exact e.length) (sortVals_data false e er' hal)⟩⟩
end
end CP
namespace CP
open PySem PySem.W PySem.Spec PyProof.Rows
section
variable {prog : Program} {w : World} {A : Around} {E : Value → Shared → Prop} {s : Shared}
abbrev pairO (x y : Value) : Obj := { cls := .type "tuple", data := .seq [x, y].toArray }
theorem min2_data {x y : Value} {dx dy : PyData} {ax ay : List Addr} {Q : Value → Shared → Prop} (hh : A.handled = none) (rx : Reads s.heap x dx ax) (ry : Reads s.heap y dy ay) (al : AlikeAll [dx, dy]) (hu : A.units + 1 + PyData.depthAll [dx, dy] < cLine)
    (h : ∀ h' tk, (∀ b o, s.heap.get? b = some o → h'.get? b = some o) → Q (if dataLt dy dx = true then y else x) { s with heap := h', toks := tk }) : wpAny (model prog w) A (call (.builtin "min") [x, y]) Q E s := by
  have nameL : (toString "min" ++ toString ".loop" : String) = "min.loop" := by decide
  have up : ∀ b o, s.heap.get? b = some o → (s.heap.push (pairO x y)).get? b = some o := fun b o e => Heap.get?_push_of_some _ e
  have rs : ReadsAll (s.heap.push (pairO x y)) (#[x, y] : Array Value).toList [dx, dy] _ := .cons (PyProof.Rows.Reads.keeps up rx) (.cons (PyProof.Rows.Reads.keeps up ry) .nil)
  have tup : (s.heap.push (pairO x y)).IsTuple s.heap.objs.size #[x, y] := ⟨_, Heap.get?_push_size _ rfl, rfl, 0, rfl⟩
  refine call_function_tree F.kind_min F.plain_min F.entry_min (F.args_min2 _ _) ?_
  show wpAny _ A.in1 (Builtin.Builtins.bindParams "min" _ 0 ⟨[], []⟩ >>= _) _ _ s
  refine wpAny_bind (wpAny_of_eq (a := [none, none]) rfl ?_)
  show wpAny _ A.in1 (newTuple [x, y] >>= _) _ _ s
  refine wpAny_bind (wpAny_newObj_type (wpAny_bind ?_))
  refine iter_tupleW (s := { s with heap := s.heap.push (pairO x y) }) (A := A.in1) hh tup fun s2 e W st fp wr kp => ?_
  refine wpAny_bind (wpAny_newObj_type ?_)
  rw [nameL]
  refine wpAny_pure ⟨plainId_quiet F.plain_min_loop _, codeAny_min_loop_firstH W (s.heap.push (pairO x y)) wr _ (cmpIn_lt (s := { s with heap := s.heap.push (pairO x y) }) (A := A.in1) rs al (by show A.units + 1 + _ < _; exact hu)) s2.heap.objs.size (fun z => Nat.lt_irrefl _ (fp _ z)) (fresh_in kp) _ (by show 0 < 2; decide) (fun b o z => Heap.get?_push_of_some _ (kp b o z)) (W.frame 0 s2 _ s2.toks st (Nat.le_refl _) fun b _ o z => Heap.get?_push_of_some _ z) (Heap.get?_push_size _ rfl) fun v s3 hv mv => ?_⟩
  obtain ⟨h3, tk, rfl, k3⟩ := moved_old e rfl (Moved.drop_new (tk := s2.toks) mv (Nat.le_refl _))
  have ev : v = if dataLt dy dx = true then y else x := by
    by_cases c : dataLt dy dx = true
    · rw [if_pos c]
      have hv' : (#[x, y] : Array Value)[if dataLt dy dx = true then 1 else 0]? = some v := hv
      rw [if_pos c] at hv'; exact (Option.some.inj hv').symm
    · rw [if_neg c]
      have hv' : (#[x, y] : Array Value)[if dataLt dy dx = true then 1 else 0]? = some v := hv
      rw [if_neg c] at hv'; exact (Option.some.inj hv').symm
  rw [ev]
  exact h h3 tk fun b o z => k3 b o (up b o z)
end
end CP
namespace CP
open PySem PySem.Spec PyProof.Rows L2
end CP
namespace CP
open PySem PySem.Spec PyProof.Rows L2
structure ZNow (h : Heap) (z TI TO i1 i2 l1 l2 S : Addr) (xs ys : Array Value) (i : Nat) : Prop where
  zp : (IsZip h z TI TO .none ∧ ∃ a b, IsPair h TO a b) ∨ ∃ T f oT, IsZipHeld h z TI TO T f ∧ h.get? T = some oT ∧ T ≠ z ∧ T ≠ i1 ∧ T ≠ i2 ∧ T ≠ S
  ti : IsPair h TI (.ref i1) (.ref i2)
  to : ∃ o, h.get? TO = some o
  it1 : h.IsListIter i1 l1 i
  it2 : h.IsListIter i2 l2 i
  ls1 : h.IsList l1 xs
  ls2 : h.IsList l2 ys
section
variable {prog : Program} {w : World} {A : Around} {E : Value → Shared → Prop} {s : Shared} {z TI TO i1 i2 l1 l2 S : Addr} {xs ys : Array Value} {i : Nat}
theorem ZNow.item {Q : Option Value → Shared → Prop} {oS : PySem.Obj} {x y : Value} (D : ZipApart z TI TO i1 i2 l1 l2) (Z : ZNow s.heap z TI TO i1 i2 l1 l2 S xs ys i) (hS : s.heap.get? S = some oS) (hx : xs[i]? = some x) (hy : ys[i]? = some y)
    (hQ : ∀ h', ZNow h' z TI TO i1 i2 l1 l2 S xs ys (i + 1) → IsPair h' s.heap.objs.size x y → h'.objs.size = s.heap.objs.size + 1 →
      (∀ c o, c ≠ z → c ≠ TO → c ≠ i1 → c ≠ i2 → s.heap.get? c = some o → h'.get? c = some o) → Q (some (.ref s.heap.objs.size)) { s with heap := h' }) :
    wpAny (model prog w) A (pyNext (.ref z)) Q E s := by
  have lt : ∀ {c o}, s.heap.get? c = some o → s.heap.objs.size ≠ c := fun e => Nat.ne_of_gt (Heap.lt_size e)
  have n1 : s.heap.objs.size ≠ i1 := by obtain ⟨_, e, _⟩ := Z.it1; exact lt e
  have n2 : s.heap.objs.size ≠ i2 := by obtain ⟨_, e, _⟩ := Z.it2; exact lt e
  rcases Z.zp with ⟨hz, a, b, hTO⟩ | ⟨T, f, oT, hz, hT, t1, t2, t3, t4⟩
  · refine wpAny_pyNext_zip_item D hz Z.ti hTO Z.it1 Z.it2 Z.ls1 Z.ls2 hx hy fun h' a1 a2 a3 a4 a5 a6 hk => hQ h' ?_ a5 a6 hk
    exact ⟨.inr ⟨_, false, _, a1, a5, lt hz, n1, n2, lt hS⟩, hk _ _ D.TIz D.TITO D.TIi1 D.TIi2 Z.ti, ⟨_, a2⟩, a3, a4, Z.ls1.at fun o q => hk _ o D.l1z D.l1TO D.l1i1 D.l1i2 q, Z.ls2.at fun o q => hk _ o D.l2z D.l2TO D.l2i1 D.l2i2 q⟩
  · refine wpAny_pyNext_zip_item_held D hz hT Z.ti Z.it1 Z.it2 Z.ls1 Z.ls2 hx hy fun h' a1 a3 a4 a5 a6 hk => hQ h' ?_ a5 a6 fun c o c1 _ c3 c4 q => hk c o c1 c3 c4 q
    exact ⟨.inr ⟨_, true, _, a1, hk _ _ t1 t2 t3 hT, t1, t2, t3, t4⟩, hk _ _ D.TIz D.TIi1 D.TIi2 Z.ti, (let ⟨o, q⟩ := Z.to; ⟨o, hk _ o D.TOz D.TOi1 D.TOi2 q⟩), a3, a4, Z.ls1.at fun o q => hk _ o D.l1z D.l1i1 D.l1i2 q, Z.ls2.at fun o q => hk _ o D.l2z D.l2i1 D.l2i2 q⟩
theorem ZNow.fin {Q : Option Value → Shared → Prop} (hh : A.handled = none) (D : ZipApart z TI TO i1 i2 l1 l2) (Z : ZNow s.heap z TI TO i1 i2 l1 l2 S xs ys i) (hend : xs[i]? = none ∨ ys[i]? = none)
    (hQ : ∀ h', (∀ c o, c ≠ z → c ≠ TO → c ≠ i1 → c ≠ i2 → s.heap.get? c = some o → h'.get? c = some o) → Q none { s with heap := h' }) : wpAny (model prog w) A (pyNext (.ref z)) Q E s := by
  rcases Z.zp with ⟨hz, a, b, hTO⟩ | ⟨T, f, oT, hz, hT, t1, t2, t3, t4⟩
  · exact wpAny_pyNext_zip_end hh D hz Z.ti hTO Z.it1 Z.it2 Z.ls1 Z.ls2 hend hQ
  · exact wpAny_pyNext_zip_end_held hh D hz hT Z.ti Z.it1 Z.it2 Z.ls1 Z.ls2 hend fun h' hk => hQ h' fun c o c1 _ c3 c4 q => hk c o c1 c3 c4 q
structure SApart (z TI TO i1 i2 l1 l2 S : Addr) : Prop where
  z : S ≠ z
  TI : S ≠ TI
  TO : S ≠ TO
  i1 : S ≠ i1
  i2 : S ≠ i2
  l1 : S ≠ l1
  l2 : S ≠ l2
theorem ZNow.frame {h h' : Heap} (P : SApart z TI TO i1 i2 l1 l2 S) (Z : ZNow h z TI TO i1 i2 l1 l2 S xs ys i) (k : ∀ c o, c ≠ S → h.get? c = some o → h'.get? c = some o) : ZNow h' z TI TO i1 i2 l1 l2 S xs ys i where
  zp := by
    rcases Z.zp with ⟨hz, a, b, hTO⟩ | ⟨T, f, oT, hz, hT, t1, t2, t3, t4⟩
    · exact .inl ⟨k _ _ P.z.symm hz, a, b, k _ _ P.TO.symm hTO⟩
    · exact .inr ⟨T, f, oT, k _ _ P.z.symm hz, k _ _ t4 hT, t1, t2, t3, t4⟩
  ti := k _ _ P.TI.symm Z.ti
  to := let ⟨o, q⟩ := Z.to; ⟨o, k _ o P.TO.symm q⟩
  it1 := Z.it1.at fun o q => k _ o P.i1.symm q
  it2 := Z.it2.at fun o q => k _ o P.i2.symm q
  ls1 := Z.ls1.at fun o q => k _ o P.l1.symm q
  ls2 := Z.ls2.at fun o q => k _ o P.l2.symm q
end
end CP
namespace CP
open PySem PySem.Spec PyProof.Rows L2
end CP
namespace CP
open PySem PySem.Spec PyProof.Rows L2
structure Cl where
  c : Value
  i : Nat
  ts : Addr → Value → Option Addr → TS
def offN (i : Nat) (D : Ends) : Ends := { nx := fun σ H => D.nx (σ.set i none) H, rt := D.rt, bk := fun σ H => D.bk (σ.set i none) H, ct := fun σ H => D.ct (σ.set i none) H }
def wClauses (K : PySem.W.Frag) (Wout : WX) (D : Ends) (l : List Cl) : WX :=
  l.foldr (fun k W cls d σ H => ∃ b, PySem.W.exmOne K cls k.c = some b ∧ (b = true → ∀ a, H a = none → k.ts a cls d (offN k.i D) (σ.set k.i (some (.ref a))) H) ∧ (b = false → W cls d σ H)) Wout
inductive ClsOk (X : Cx) : List ExceptHandler → List Cl → Prop
  | nil : ClsOk X [] []
  | cons {x n : Str} {c : Value} {i : Nat} {ts : Addr → Value → Option Addr → TS} {b₀ : Stmt} {suite : List Stmt} {np p : Pos} {hds : List ExceptHandler} {l : List Cl} (hc : Names X x c) (hi : X.N[i]? = some n) (hl : X.env.kindOf n = some .local)
      (hsu : ∀ (a : Addr) (oe : Obj) (cls : Value) (d : Option Addr) (pn : List (Addr × Obj)), Zc cls d oe → (∃ vs, oe.data = .fields vs) → PSs (X.suite a ((a, oe) :: pn)) (b₀ :: suite) (ts a cls d)) (r : ClsOk X hds l) :
      ClsOk X (.ExceptHandler (some (.Name x np)) (some n) (b₀ :: suite) p :: hds) (⟨c, i, ts⟩ :: l)
section
variable {X : Cx} {body : List Stmt} {h₀ : ExceptHandler} {hds : List ExceptHandler} {l : List Cl} {pos : Pos} {tb : WX → TS} {Wout : WX}
structure Down (X : Cx) (pins : List (Addr × Obj)) (a : Addr) (B : Heap) (sI s : Shared) (h : Heap) (σ : L2.St) (H : Hp) (cls : Value) (d : Option Addr) : Prop where
  inv : L2.Inv X pins σ H sI
  nb : ∀ b o, sI.heap.get? b = some o → b ∉ frs X.stack → B.get? b = some o
  up : sI.heap.UpToSlots h
  fl : HandSPX.FlyingZ B (X.env :: X.outer) a (Zc cls d) h
  na : H a = none
  os : s.os = sI.os
  ag : AllBare s.gens
theorem Down.fits {pins : List (Addr × Obj)} {a : Addr} {B h : Heap} {sI s : Shared} {σ : L2.St} {H : Hp} {cls : Value} {d : Option Addr} (w : Down X pins a B sI s h σ H cls d) (hf : X.env.frame = some X.env.locals) :
    ∃ oe : Obj, h.get? a = some oe ∧ Zc cls d oe ∧ (∃ vs, oe.data = .fields vs) ∧ L2.Inv (X.suite a ((a, oe) :: (X.pn ++ pins))) [] σ H { s with heap := h } ∧ L2.Inv X pins σ H { s with heap := h } := by
  have J := w.inv.landed (s' := { s with heap := h }) w.nb w.fl.1 w.up w.os w.ag
  obtain ⟨oe, vs, he, hz, hd⟩ := w.fl.there
  have nfr : a ∉ frs (X.env :: X.outer) := fun hm => by
    obtain ⟨_, o, e, n⟩ := w.fl.2.2.1.mem hm
    rw [he] at e; cases e
    exact n _ hd
  refine ⟨oe, he, hz, ⟨vs, hd⟩, J.suite he hd w.na (fun z => nfr (List.mem_filterMap.mpr ⟨X.env, List.mem_cons_self, by rw [hf, z]⟩)) (fun hm => ?_), J⟩
  obtain ⟨e, he, q⟩ := List.mem_filterMap.mp hm
  exact nfr (List.mem_filterMap.mpr ⟨e, List.mem_cons_of_mem _ he, q⟩)
theorem Down.run {pins : List (Addr × Obj)} {D : Ends} {a : Addr} {B h : Heap} {sI s : Shared} {σ : L2.St} {H : Hp} {cls : Value} {d : Option Addr} (w : Down X pins a B sI s h σ H cls d) (hs : X.stack = X.env :: X.outer) (hf : X.env.frame = some X.env.locals) (hN : X.N.Nodup) (tk : Takes X Wout) (ok : X.Ok)
    {hds : List ExceptHandler} {l : List Cl} (hk : ClsOk X hds l) : wClauses X.K Wout D l cls d σ H → wpAny (model X.prog X.w) X.A (handleBy (.ref a) X.env hds) (SP X pins D) X.xe { s with heap := h } := by
  induction hk with
  | nil =>
    intro q
    refine wpAny_handleBy_nil ?_
    obtain ⟨_, _, _, oe, vs, T, oT, ts', he, hz, hd, h1, hr⟩ := id w.fl
    have fin : wpAny (model X.prog X.w) X.A (setFlight (.ref a) X.env.frame) (fun _ s4 => wpAny (model X.prog X.w) X.A (throw (.ref a) : Sem Flow) (SP X pins D) X.xe s4) X.xe { s with heap := h } := by
      rw [hf]
      exact HandSPX.setFlight_upZ w.fl fun h4 hh4 up4 => wpAny_throw (tk _ _ ⟨a, B, sI, pins, σ, H, cls, d, rfl, w.inv, w.nb, w.up.trans up4, .inr (.inr (by rw [hs]; exact hh4)), w.na, w.os, w.ag, q⟩)
    unfold PySem.passOn
    refine wpAny_bind (wpAny_field he hd h1 ?_)
    rw [if_neg (show ¬ ((Value.ref T == Value.none) = true) from by simp)]
    first
      | exact wpAny_bind (wpAny_pure (wpAny_bind fin))
      | exact wpAny_bind fin
  | @cons x n c i ts b₀ suite np p hds l hc hi hl hsu r ih =>
    rintro ⟨b, hb, hyes, hno⟩
    obtain ⟨oe, he, hz, hd, S, J⟩ := w.fits hf
    have LT : PySem.W.Looks (model X.prog X.w) h (typeOf (.ref a)) cls := fun A Q E s k q => wpAny_typeOf_ref (k _ _ he) (by rw [hz.1]; exact q)
    refine wpAny_handleBy_cons (codeAny_handlers_test ?_) (by intro q; cases q)
    have go : ∀ {Q : Value → Shared → Prop} {E : Value → Shared → Prop}, Q c { s with heap := h } → wpAny (model X.prog X.w) (X.A.mark (some (.ref a))) (eval (.Name x np) X.env) Q E { s with heap := h } := fun {Q E} q => by
      obtain ⟨hg, hdbg, hm | ⟨hm, hv, hnn⟩⟩ := hc
      · exact ld_glob (X := X.suite a ((a, oe) :: (X.pn ++ pins))) S hg hm q hdbg
      · exact ld_blt (X := X.suite a ((a, oe) :: (X.pn ++ pins))) S hg hm hv q hnn hdbg
    refine go ((PySem.W.exm_one (M := model X.prog X.w) J.kIn LT hb).here ?_)
    cases b with
    | false => exact ih (hno rfl)
    | true =>
      refine codeAny_handlers_suite_as (HandSPX.lands_againZ w.fl fun h4 fl4 up4 => ?_)
      have w4 : Down X pins a B sI s h4 σ H cls d := ⟨w.inv, w.nb, w.up.trans up4, fl4, w.na, w.os, w.ag⟩
      obtain ⟨o4, he4, hz4, hd4, S4, _⟩ := w4.fits hf
      refine store_ok (X := X.suite a ((a, o4) :: (X.pn ++ pins))) (v := .ref a) S4 hN hi (.inl hl) rfl (fun s5 S5 => ?_) (.inr hl)
      refine wpAny_mono ((hsu a o4 cls d (X.pn ++ pins) hz4 hd4).run [] s5 _ H _ S5 (hyes rfl a w.na)) (fun f s6 hsp => ?_) (fun _ _ z => False.elim z)
      match f, hsp with
      | .next, ⟨σ6, H6, S6, q6⟩ => exact gone_ok (S6.unsuite ok) hN hi hl fun s7 J7 => ⟨_, _, J7, q6⟩
      | .brk, ⟨σ6, H6, S6, q6⟩ => exact gone_ok (S6.unsuite ok) hN hi hl fun s7 J7 => ⟨_, _, J7, q6⟩
      | .cont, ⟨σ6, H6, S6, q6⟩ => exact gone_ok (S6.unsuite ok) hN hi hl fun s7 J7 => ⟨_, _, J7, q6⟩
      | .ret u, ⟨v6, σ6, H6, S6, r6, q6⟩ => exact gone_ok (S6.unsuite ok) hN hi hl fun s7 J7 => ⟨_, _, _, J7, r6, q6⟩
end
end CP
namespace CP
open PySem PySem.Spec PyProof.Rows L2
section
variable {X : Cx} {body : List Stmt} {hds : List ExceptHandler} {pos np p : Pos} {tb : WX → TS} {Wout : WX} {x n : Str} {c : Value} {i : Nat} {ts : Addr → Value → Option Addr → TS} {b₀ : Stmt} {suite : List Stmt}
def wFirst (K : PySem.W.Frag) (c : Value) (i : Nat) (ts : Addr → Value → Option Addr → TS) (D : Ends) : WX := fun cls d σ H => PySem.W.exmOne K cls c = some true ∧ ∀ a, H a = none → ts a cls d (offN i D) (σ.set i (some (.ref a))) H
theorem Down.first {pins : List (Addr × Obj)} {D : Ends} {a : Addr} {B h : Heap} {sI s : Shared} {σ : L2.St} {H : Hp} {cls : Value} {d : Option Addr} (w : Down X pins a B sI s h σ H cls d) (hs : X.stack = X.env :: X.outer) (hf : X.env.frame = some X.env.locals) (hN : X.N.Nodup) (ok : X.Ok)
    (hc : Names X x c) (hi : X.N[i]? = some n) (hl : X.env.kindOf n = some .local) (hsu : ∀ (a : Addr) (oe : Obj) (cls : Value) (d : Option Addr) (pn : List (Addr × Obj)), Zc cls d oe → (∃ vs, oe.data = .fields vs) → PSs (X.suite a ((a, oe) :: pn)) (b₀ :: suite) (ts a cls d)) :
    wFirst X.K c i ts D cls d σ H → wpAny (model X.prog X.w) X.A (handleBy (.ref a) X.env (.ExceptHandler (some (.Name x np)) (some n) (b₀ :: suite) p :: hds)) (SP X pins D) X.xe { s with heap := h } := by
  rintro ⟨hb, hyes⟩
  obtain ⟨oe, he, hz, hd, S, J⟩ := w.fits hf
  have LT : PySem.W.Looks (model X.prog X.w) h (typeOf (.ref a)) cls := fun A Q E s k q => wpAny_typeOf_ref (k _ _ he) (by rw [hz.1]; exact q)
  refine wpAny_handleBy_cons (codeAny_handlers_test ?_) (by intro q; cases q)
  have go : ∀ {Q : Value → Shared → Prop} {E : Value → Shared → Prop}, Q c { s with heap := h } → wpAny (model X.prog X.w) (X.A.mark (some (.ref a))) (eval (.Name x np) X.env) Q E { s with heap := h } := fun {Q E} q => by
    obtain ⟨hg, hdbg, hm | ⟨hm, hv, hnn⟩⟩ := hc
    · exact ld_glob (X := X.suite a ((a, oe) :: (X.pn ++ pins))) S hg hm q hdbg
    · exact ld_blt (X := X.suite a ((a, oe) :: (X.pn ++ pins))) S hg hm hv q hnn hdbg
  refine go ((PySem.W.exm_one (M := model X.prog X.w) J.kIn LT hb).here ?_)
  refine codeAny_handlers_suite_as (HandSPX.lands_againZ w.fl fun h4 fl4 up4 => ?_)
  have w4 : Down X pins a B sI s h4 σ H cls d := ⟨w.inv, w.nb, w.up.trans up4, fl4, w.na, w.os, w.ag⟩
  obtain ⟨o4, he4, hz4, hd4, S4, _⟩ := w4.fits hf
  refine store_ok (X := X.suite a ((a, o4) :: (X.pn ++ pins))) (v := .ref a) S4 hN hi (.inl hl) rfl (fun s5 S5 => ?_) (.inr hl)
  refine wpAny_mono ((hsu a o4 cls d (X.pn ++ pins) hz4 hd4).run [] s5 _ H _ S5 (hyes a w.na)) (fun f s6 hsp => ?_) (fun _ _ z => False.elim z)
  match f, hsp with
  | .next, ⟨σ6, H6, S6, q6⟩ => exact gone_ok (S6.unsuite ok) hN hi hl fun s7 J7 => ⟨_, _, J7, q6⟩
  | .brk, ⟨σ6, H6, S6, q6⟩ => exact gone_ok (S6.unsuite ok) hN hi hl fun s7 J7 => ⟨_, _, J7, q6⟩
  | .cont, ⟨σ6, H6, S6, q6⟩ => exact gone_ok (S6.unsuite ok) hN hi hl fun s7 J7 => ⟨_, _, J7, q6⟩
  | .ret u, ⟨v6, σ6, H6, S6, r6, q6⟩ => exact gone_ok (S6.unsuite ok) hN hi hl fun s7 J7 => ⟨_, _, _, J7, r6, q6⟩
end
end CP
namespace CP
open PySem PySem.Spec PyProof.Rows PySem.SeqAt L2
section
variable {M : Model} {prog : Program} {w : World} {A : Around} {E : Value → Shared → Prop} {s : Shared} {K : PySem.W.Frag} {x C : Addr} {ox : Obj} {od : Option Obj}
end
section
variable {X : Cx} {C f : Addr} {fd : FuncData} {ps : List Str} {n : Nat} {sp : Sp}
end
end CP
namespace GQ
open PySem PySem.SeqAt
open AutoSeq1 (wpAny_loadPart')
open MeetsSeq MeetsSeq2 MeetsSeq3 SeqRoads2
section
variable {prog : Program} {w : World} {A : Around} {R : Result → Shared → Prop}
theorem tuple_neG (l b : Addr) (items items2 : Array Value) (n n2 : Nat) (dd dd2 : Option Addr) (sl sl2 : Array (Option Value)) (hsz : items.size = items2.size) (I : Nat → Shared → Prop)
    (turn : ∀ i (h1 : i < items.size) (h2 : i < items2.size) s, I i s → wpAny (model prog w) A.in1 (eqBool items[i] items2[i]) (fun r s' => r = true ∧ I (i + 1) s') (fun e s' => R (.error e) s') s)
    (fin : ∀ s, I items.size s → R (.ok (.ret (.bool false))) s) {s : Shared} (hl1 : s.heap.get? l = some { cls := .type "tuple", dict := dd, data := .seq items n, slots := sl }) (hb1 : s.heap.get? b = some { cls := .type "tuple", dict := dd2, data := .seq items2 n2, slots := sl2 }) (h : I 0 s) :
    wpAny (model prog w) A.in1 (Builtin.«tuple.__ne__» ⟨[.ref l, .ref b], []⟩) (FinOf prog w A R) (fun e s' => R (.error e) s') s := by
  have f2 := AutoSeq1.sub_tuple_tuple
  have hZ : (items.toList.zip items2.toList).length = items.size := by simp [hsz]
  have h0 := h
  obtain ⟨hp, g, d, tk, os⟩ := s
  wp_walk using wpAny_loadPart' hl1, wpAny_loadPart' hb1, wpAny_forIn_list _ (fun rest b s' => b.1 = none ∧ ∃ i, rest = (items.toList.zip items2.toList).drop i ∧ i ≤ items.size ∧ I i s') _
  case turn =>
    rintro ⟨y, x⟩ rest b s' ⟨hb', i, hz, hi, hI⟩
    have hlt : i < (items.toList.zip items2.toList).length := by
      rcases Nat.lt_or_ge i (items.toList.zip items2.toList).length with h' | h'
      · exact h'
      · rw [List.drop_of_length_le h'] at hz; cases hz
    have h1 : i < items.size := hZ ▸ hlt
    have h2 : i < items2.size := hsz ▸ h1
    rw [List.drop_eq_getElem_cons hlt] at hz
    injection hz with hyx hrest
    have hy : y = items[i] := by have := congrArg Prod.fst hyx; simpa using this
    have hx : x = items2[i] := by have := congrArg Prod.snd hyx; simpa using this
    subst hy hx
    refine wpAny_bind (wpAny_mono (turn i h1 h2 s' hI) (fun r s2 q2 => ?_) fun _ _ x => x)
    obtain ⟨hr, q2⟩ := q2
    subst hr
    wp_walk
    exact ⟨rfl, i + 1, hrest, h1, q2⟩
  case fin =>
    rintro ⟨b1, b2⟩ s' ⟨hb', i, hz, hi, hI⟩
    simp only at hb'
    subst hb'
    have hge : items.size ≤ i := by
      rcases Nat.lt_or_ge i (items.toList.zip items2.toList).length with h' | h'
      · rw [List.drop_eq_getElem_cons h'] at hz; cases hz
      · exact hZ ▸ h'
    have hi' : i = items.size := by omega
    have hR : R (.ok (.ret (.bool false))) s' := fin s' (hi' ▸ hI)
    wp_walk
    simpa [Builtin.Tuple.tupleCompareSizes, hsz] using hR
  case h =>
    exact ⟨rfl, 0, rfl, Nat.zero_le _, h0⟩
end
section
variable {prog : Program} {w : World} {A : Around} {E : Value → Shared → Prop} {s : Shared}
theorem rc_neTupG {l b : Addr} {items items2 : Array Value} {Q : Value → Shared → Prop} (hsz : items.size = items2.size) (hu : A.units < cLine) (I : Nat → Shared → Prop)
    (hl : s.heap.IsTuple l items) (hb : s.heap.IsTuple b items2)
    (turn : ∀ i (h1 : i < items.size) (h2 : i < items2.size) s, I i s → wpAny (model prog w) A.in1 (eqBool items[i] items2[i]) (fun r s' => r = true ∧ I (i + 1) s') E s)
    (fin : ∀ s, I items.size s → Q (.bool false) s) (h : I 0 s) : wpAny (model prog w) A (richCompare .NotEq (.ref l) (.ref b)) Q E s := by
  obtain ⟨⟨cls, dd, data, sl⟩, ho, hc, n, hd⟩ := id hl
  obtain ⟨⟨cls2, dd2, data2, sl2⟩, ho2, hc2, n2, hd2⟩ := id hb
  simp only at hc hd hc2 hd2
  subst hc hd hc2 hd2
  refine wpAny_richCompare_same_room (op := .NotEq) ⟨_, ho, rfl⟩ ⟨_, ho2, rfl⟩ F.slot_tuple_ne (call_here F.slot_tuple_ne ⟨_, ho, rfl⟩ F.entry_tuple_ne (F.args_tuple_ne_2 _ _) ?_) hu
  exact tuple_neG (R := wants (fun v s' => v ≠ .notImplemented ∧ Q v s') E) l b items items2 n n2 dd dd2 sl sl2 hsz I turn (fun s' q => ⟨(fun x => nomatch x), fin s' q⟩) ho ho2 h
end
end GQ
namespace CP
open PySem PySem.Spec PyProof.Rows L2
section
variable {X : Cx} {n m : Nat} {D D' : Eqv}
def rNeG (K : PySem.W.Frag) (D : Eqv) : R2 := fun x y H Q => DTup K D x y H ∧ ∀ H', Ext H H' → Q (.bl false) H'
theorem op_neTG (hD : Mon D) (h : EqG X n D) (hr : Room (n + 1) X.A) : OpR X (compareOp .NotEq) (rNeG X.K D) := by
  intro pins s σ H x y v u Q I rx ry hq
  obtain ⟨⟨a, b, xs, ys, rfl, rfl, ha, hb, p⟩, q⟩ := hq
  cases rx
  cases ry
  have sb : Sub X (n + 1) X.A := ⟨hr, rfl⟩
  obtain ⟨its, r, e, z⟩ := I.tuple ha
  obtain ⟨its2, r2, e2, z2⟩ := I.tuple hb
  have hsz : its.toArray.size = its2.toArray.size := by rw [List.size_toArray, List.size_toArray, ← r.length, ← r2.length]; exact p.1
  show wpAny (model X.prog X.w) X.A (richCompare .NotEq _ _) (EP X pins σ Q) X.xe s
  refine GQ.rc_neTupG hsz sb.room.units0 (fun _ s' => LoopI X pins σ H s') e e2 (fun i h1 h2 s' q => turnG hD h sb p r r2 i h1 h2 s' q) (fun s' ⟨H', I', e⟩ => ⟨.bl false, H', I', rfl, q H' e⟩) ⟨H, I, Ext.rfl'⟩
end
end CP
namespace CP
open PySem PySem.Spec PyProof.Rows L2
section
variable {P : Program} {w : World}
theorem ClsAt.flat {n : Nat} {s : Shared} {v : Value} (h : ∀ n, ofAClassStatement n v = pure false) : ClsAt P w n s v := fun A E Q q => by rw [h]; exact wpAny_pure q
mutual
theorem nk_cls {s : Shared} : ∀ {k : NestedKey} {v : Value} {n : Nat}, NestedIs s.heap k v → k.depth ≤ n → ClsAt P w n s v
  | _, _, _, .none, _ => .flat fun n => by cases n <;> rfl
  | _, _, _, .bool _, _ => .flat fun n => by cases n <;> rfl
  | _, _, _, .int _ _, _ => .flat fun n => by cases n <;> rfl
  | _, _, _, .text _ _, _ => .flat fun n => by cases n <;> rfl
  | _, _, 0, .tup _ _ _ _, d => absurd d (by simp [NestedKey.depth])
  | _, _, n + 1, .tup h1 h2 h3 h4, d => .tup h1 h2 h3 (nk_clss h4 (by simp only [NestedKey.depth] at d; omega))
theorem nk_clss {s : Shared} : ∀ {ks : List NestedKey} {vs : List Value} {n : Nat}, NestedAll s.heap ks vs → NestedKey.depthAll ks ≤ n → ∀ v ∈ vs, ClsAt P w n s v
  | _, _, _, .nil, _ => fun v hv => nomatch hv
  | _, _, _, .cons h t, d => fun v hv => by
    simp only [NestedKey.depthAll] at d
    rcases List.mem_cons.mp hv with rfl | hv
    · exact nk_cls h (by omega)
    · exact nk_clss t (by omega) v hv
end
theorem HbyAt.flat {n : Nat} {s : Shared} {v : Value} {b : Bool} (h : ∀ n, hashByValue n v = pure b) : HbyAt P w n s v := fun A E Q q => by rw [h]; exact wpAny_pure (q b)
mutual
theorem nk_hby {s : Shared} : ∀ {k : NestedKey} {v : Value} {n : Nat}, NestedIs s.heap k v → k.depth ≤ n → HbyAt P w n s v
  | _, _, _, .none, _ => .flat (b := true) fun n => by cases n <;> rfl
  | _, _, _, .bool _, _ => .flat (b := true) fun n => by cases n <;> rfl
  | _, _, _, .int _ _, _ => .flat (b := true) fun n => by cases n <;> rfl
  | _, _, _, .text _ _, _ => .flat (b := false) fun n => by cases n <;> rfl
  | _, _, 0, .tup _ _ _ _, d => absurd d (by simp [NestedKey.depth])
  | _, _, n + 1, .tup h1 h2 h3 h4, d => .tup h1 h2 h3 (nk_hbys h4 (by simp only [NestedKey.depth] at d; omega))
theorem nk_hbys {s : Shared} : ∀ {ks : List NestedKey} {vs : List Value} {n : Nat}, NestedAll s.heap ks vs → NestedKey.depthAll ks ≤ n → ∀ v ∈ vs, HbyAt P w n s v
  | _, _, _, .nil, _ => fun v hv => nomatch hv
  | _, _, _, .cons h t, d => fun v hv => by
    simp only [NestedKey.depthAll] at d
    rcases List.mem_cons.mp hv with rfl | hv
    · exact nk_hby h (by omega)
    · exact nk_hbys t (by omega) v hv
end
abbrev KN := { k : NestedKey // k.depth ≤ 8 }
abbrev KnAt (h : Heap) (k : KN) (b : Addr) : Prop := NestedIs h k.1 (.ref b)
theorem kn_seen {A : Around} {E : Value → Shared → Prop} {s : Shared} {k : KN} {b : Addr} {Q : Bool → Shared → Prop} {ys : List Value} (hk : KnAt s.heap k b) (hy : ∀ y ∈ ys, ∃ z c, y = Value.ref c ∧ KnAt s.heap z c) (h : Q false s) : wpAny (model P w) A (searchCouldBeSeen (.ref b) ys) Q E s := by
  unfold searchCouldBeSeen
  refine wpAny_bind ?_
  refine wpAny_forIn_list _ (fun rest r s' => r.1 = none ∧ s' = s ∧ ∀ y ∈ rest, ∃ z c, y = Value.ref c ∧ KnAt s.heap z c) _ ?_ ?_ _ _ ⟨rfl, rfl, hy⟩
  · rintro v rest r s' ⟨hr, rfl, each⟩
    obtain ⟨z, c, rfl, hc⟩ := each v List.mem_cons_self
    have more : ∀ y ∈ rest, ∃ z c, y = Value.ref c ∧ KnAt s'.heap z c := fun y z => each y (List.mem_cons_of_mem _ z)
    dsimp only
    by_cases hv : (b == c || (carriedByValue (.ref b) && carriedByValue (.ref c))) = true
    · exact wp_if_pos hv (wpAny_pure ⟨rfl, rfl, more⟩)
    · refine wp_if_neg hv (wpAny_bind (quiet_key _ _ 8 s' hk k.2 _ _ _ ?_)); simp only [Bool.not_true, Bool.false_eq_true, if_false]
      refine wpAny_bind (quiet_key _ _ 8 s' hc z.2 _ _ _ ?_); simp only [Bool.not_true, Bool.false_eq_true, if_false]
      refine wpAny_bind (nk_cls hk k.2 _ _ _ ?_); simp only [Bool.false_eq_true, if_false]
      refine wpAny_bind (nk_cls hc z.2 _ _ _ ?_); simp only [Bool.false_eq_true, if_false]
      exact wpAny_pure ⟨rfl, rfl, more⟩
  · rintro ⟨r1, r2⟩ s' ⟨hr, rfl, _⟩
    simp only at hr; subst hr
    exact wpAny_pure h
end
def nkF (P : Program) (w : World) : KF P w KN where
  At := fun h k b => KnAt h k b
  hs := fun k => k.1.hash w
  eqb := fun {A E s x y a b Q} hu hx hy h => (nestedKind P w).eqBool hu ⟨hx, x.2⟩ ⟨hy, y.2⟩ (by
    have e : decide (x.1 = y.1) = decide (x = y) := decide_eq_decide.mpr ⟨Subtype.ext, fun z => by rw [z]⟩
    rw [e]; exact h)
  seen := fun hx hy h => kn_seen hx hy h
  hby := fun {A E s x b Q} hx h => nk_hby hx x.2 _ _ _ h
  pyh := fun {A E s x b Q} hu hx h => pyHash_key _ _ _ _ _ hx (by have := x.2; omega) (h _)
  other := fun hb ho hd hs => NestedIs.at (fun c oc vs n hc hv => by
    refine (hs.2 c fun z => ?_).trans hc
    rw [z, ho] at hc; cases hc; rw [hd] at hv; cases hv) _ _ hb
  kept := fun hb hk => NestedIs.at (fun c oc vs n hc _ => hk c oc hc) _ _ hb
def SetGI (P : Program) (w : World) (a : Addr) (L : List (Addr × KN)) (h : Heap) : Prop :=
  ∃ es ep t, (∃ o, h.get? a = some o ∧ o.ExactSet ∧ o.data = .set es ep t) ∧ es.toList = rowsK (nkF P w) L ∧ TabG t (hsK (nkF P w) L) ∧ (L.map (·.2)).Nodup ∧ L.length * 5 < t.mask * 3 ∧ L.length < 300 ∧ (t.led = true ∨ w.params.followText "set-order" = true)
def SetG (P : Program) (w : World) (a : Addr) (L : List (Addr × KN)) : HO := .ext (SetGI P w a L)
end CP
namespace CP
open PySem PySem.Spec PyProof.Rows L2
inductive PV where
  | non | bl (b : Bool) | int (i : Int) | str (x : Str)
  | lst (xs : List PV) | tup (xs : List PV)
  | dic (kvs : List (PV × PV)) | set (ks : List PV)
  | ins (C : Addr) (ns : List Str) (vs : List PV)
  | ty (n : String) | cls (C : Addr)
  /-- the law's script -/
  | scr (xs : List PV)
mutual
/-- a tuple's key, as a dict holds it -/
def PV.nk : PV → NestedKey
  | .non => .none
  | .bl b => .num (if b = true then 1 else 0)
  | .int i => .num i
  | .str x => .text x
  | .tup xs => .tup (PV.nks xs)
  | .lst _ => .none
  | .dic _ => .none
  | .set _ => .none
  | .ins _ _ _ => .none
  | .ty _ => .none
  | .cls _ => .none
  | .scr _ => .none
def PV.nks : List PV → List NestedKey
  | [] => []
  | x :: xs => PV.nk x :: PV.nks xs
end
mutual
/-- it may be a key -/
def PV.kOk : PV → Bool
  | .non => true
  | .bl _ => true
  | .int _ => true
  | .str _ => true
  | .tup xs => PV.kOks xs
  | .lst _ => false
  | .dic _ => false
  | .set _ => false
  | .ins _ _ _ => false
  | .ty _ => false
  | .cls _ => false
  | .scr _ => false
def PV.kOks : List PV → Bool
  | [] => true
  | x :: xs => PV.kOk x && PV.kOks xs
end
mutual
def PV.toD : PV → PyData
  | .non => .none
  | .bl b => .bool b
  | .int i => .int i
  | .str x => .str x
  | .lst xs => .list (PV.toDs xs)
  | .tup xs => .tuple (PV.toDs xs)
  | .dic _ => .none
  | .set _ => .none
  | .ins _ _ _ => .none
  | .ty _ => .none
  | .cls _ => .none
  | .scr _ => .none
def PV.toDs : List PV → List PyData
  | [] => []
  | x :: xs => PV.toD x :: PV.toDs xs
end
mutual
/-- plain data: no dicts, sets, instances -/
def PV.isD : PV → Bool
  | .non => true
  | .bl _ => true
  | .int _ => true
  | .str _ => true
  | .lst xs => PV.isDs xs
  | .tup xs => PV.isDs xs
  | .dic _ => false
  | .set _ => false
  | .ins _ _ _ => false
  | .ty _ => false
  | .cls _ => false
  | .scr _ => false
def PV.isDs : List PV → Bool
  | [] => true
  | x :: xs => PV.isD x && PV.isDs xs
end
abbrev CnG := List (NestedKey × Addr × V)
def LikeG (x : NestedKey × Addr × V) (u : NestedKey × Addr × Value) : Prop := u.1 = x.1 ∧ u.2.1 = x.2.1 ∧ RelV x.2.2 u.2.2
def DctGI (P : Program) (w : World) (a : Addr) (xs : CnG) (h : Heap) : Prop :=
  (a == sysModules) = false ∧ ∃ o es ep us, h.get? a = some o ∧ o.ExactDict ∧ o.data = .dict es ep ∧ es.toList = us.map (entryOfKey (nestedKind P w)) ∧ (us.map (·.1)).Nodup ∧ Paired LikeG xs us
def DctG (P : Program) (w : World) (a : Addr) (xs : CnG) : HO := .ext (DctGI P w a xs)
theorem dctG_ok {P : Program} {w : World} {H : Hp} {h : Heap} {a : Addr} {xs : CnG} (R : DctGI P w a xs h) : ObjOk P w H h a (DctG P w a xs) := by
  have ⟨_, o, es, ep, us, ho, _⟩ := R
  exact ⟨R, ⟨o, ho⟩, fun h1 h2 ⟨sy, o', es', ep', us', ho', r⟩ k => ⟨sy, o', es', ep', us', k o' ho', r⟩⟩
structure En where
  P : Program
  w : World
  K : PySem.W.Frag
def keyP : Key → PV
  | .inl i => .int i
  | .inr x => .str x
def StayL (H : Hp) (M : Addr → Prop) (a : Addr) (vs : List V) : Prop := Rd H a (.lst vs) ∧ ¬ M a
def StayS (K : PySem.W.Frag) (H : Hp) (M : Addr → Prop) (a : Addr) (vs : List V) : Prop :=
  (Rd H a (.lst vs) ∧ ¬ M a) ∨ ∃ (o : Obj) (its : Array Value) (n : Nat), K.lookup a = some o ∧ o.cls = .type "list" ∧ o.dict = none ∧ o.data = .seq its n ∧ its.size ≤ sizeLine ∧ Vals vs its.toList
def StayT (H : Hp) (M : Addr → Prop) (a : Addr) (vs : List V) : Prop := (H a = some (.tup vs) ∨ ((∀ v ∈ vs, ∃ x, v = V.str x) ∧ ∃ o, H a = some (.frz o (.tup vs)))) ∧ ¬ M a
theorem StayT.rd {H : Hp} {M : Addr → Prop} {a : Addr} {vs : List V} (h : StayT H M a vs) : Rd H a (.tup vs) := h.1.elim .inl fun z => .inr z.2
def VtxOk (H : Hp) (M : Addr → Prop) (fs : List (Str × V)) : Prop := ∀ v, fs.lookup ("vertices" : Str) = some v → ∃ (a : Addr) (o : PySem.Obj) (us : List V), v = V.ref a ∧ H a = some (.frz o (.tup us)) ∧ o.dict = none ∧ ¬ M a
def PV.keyB (p : PV) : Bool := PV.kOk p && decide ((PV.nk p).depth ≤ 8) && (match p with | .tup _ => true | _ => false)
theorem StayL.sq {K : PySem.W.Frag} {H : Hp} {M : Addr → Prop} {a : Addr} {vs : List V} (h : StayL H M a vs) : SqL K H a vs := .inl h.1
theorem StayS.sq {K : PySem.W.Frag} {H : Hp} {M : Addr → Prop} {a : Addr} {vs : List V} (h : StayS K H M a vs) : SqL K H a vs := h.elim (fun q => .inl q.1) .inr
theorem StayT.sq {K : PySem.W.Frag} {H : Hp} {M : Addr → Prop} {a : Addr} {vs : List V} (h : StayT H M a vs) : SqT K H a vs := .inl h.rd
mutual
inductive Rep (G : En) (H : Hp) (M : Addr → Prop) : V → PV → Prop
  | non : Rep G H M .non .non
  | bl (b : Bool) : Rep G H M (.bl b) (.bl b)
  | int (i : Int) : Rep G H M (.int i) (.int i)
  | str (x : Str) : Rep G H M (.str x) (.str x)
  | ty (n : String) : Rep G H M (.ty n) (.ty n)
  | cls (C : Addr) : Rep G H M (.ref C) (.cls C)
  | scr {a : Addr} {vs : List V} {xs : List PV} : StayS G.K H M a vs → RepAll G H M vs xs → Rep G H M (.ref a) (.scr xs)
  | lst {a : Addr} {vs : List V} {xs : List PV} : StayL H M a vs → RepAll G H M vs xs → Rep G H M (.ref a) (.lst xs)
  | tup {a : Addr} {vs : List V} {xs : List PV} : StayT H M a vs → RepAll G H M vs xs → Rep G H M (.ref a) (.tup xs)
  | dicK {a : Addr} {ob : PySem.Obj} {kvs : List (Key × V)} {ps : List (PV × PV)} : H a = some (.frz ob (.dK kvs)) → ¬ M a → ps.map (·.1) = kvs.map (fun p => keyP p.1) → RepAll G H M (kvs.map (·.2)) (ps.map (·.2)) → Rep G H M (.ref a) (.dic ps)
  | dicG {a : Addr} {ob : PySem.Obj} {c : CnG} {ps : List (PV × PV)} : H a = some (.frz ob (DctG G.P G.w a c)) → ¬ M a → RepAll G H M (c.map fun x => .ref x.2.1) (ps.map (·.1)) → (ps.all fun p => PV.keyB p.1) = true → c.map (·.1) = ps.map (fun p => PV.nk p.1) → RepAll G H M (c.map (·.2.2)) (ps.map (·.2)) → Rep G H M (.ref a) (.dic ps)
  | ins {a C dx : Addr} {fs : List (Str × V)} {ns : List Str} {vs : List PV} : H a = some (.ins C dx fs) → ¬ M a → fs.map (·.1) = ns → RepAll G H M (fs.map (·.2)) vs → VtxOk H M fs → Rep G H M (.ref a) (.ins C ns vs)
inductive RepAll (G : En) (H : Hp) (M : Addr → Prop) : List V → List PV → Prop
  | nil : RepAll G H M [] []
  | cons {v : V} {vs : List V} {x : PV} {xs : List PV} : Rep G H M v x → RepAll G H M vs xs → RepAll G H M (v :: vs) (x :: xs)
end
def Obj (G : En) (H : Hp) (M : Addr → Prop) (a : Addr) : PV → Prop
  | .lst xs => ∃ vs, H a = some (.lst vs) ∧ RepAll G H M vs xs
  | .dic ps => (∃ kvs : List (Key × V), H a = some (.dK kvs) ∧ ps.map (·.1) = kvs.map (fun p => keyP p.1) ∧ RepAll G H M (kvs.map (·.2)) (ps.map (·.2))) ∨
      ∃ c, H a = some (DctG G.P G.w a c) ∧ RepAll G H M (c.map fun x => .ref x.2.1) (ps.map (·.1)) ∧ (ps.all fun p => PV.keyB p.1) = true ∧ c.map (·.1) = ps.map (fun p => PV.nk p.1) ∧ RepAll G H M (c.map (·.2.2)) (ps.map (·.2))
  | .set ks => ∃ (L : List (Addr × KN)) (xs : List PV), H a = some (SetG G.P G.w a L) ∧ RepAll G H M (L.map fun x => .ref x.1) xs ∧ (xs.all PV.keyB) = true ∧ L.map (fun x => x.2.1) = xs.map PV.nk ∧ xs.Perm ks
  | .ins C ns vs => ∃ (dx : Addr) (fs : List (Str × V)), H a = some (.ins C dx fs) ∧ fs.map (·.1) = ns ∧ RepAll G H M (fs.map (·.2)) vs ∧ VtxOk H M fs
  | _ => False
structure Step (H : Hp) (M : Addr → Prop) (H' : Hp) (M' : Addr → Prop) : Prop where
  keep : ∀ b o, H b = some o → ¬ M b → H' b = some o
  old : ∀ b, H b ≠ none → M' b → M b
  there : ∀ b, H b ≠ none → H' b ≠ none
theorem Step.refl {H : Hp} {M : Addr → Prop} : Step H M H M := ⟨fun _ _ h _ => h, fun _ _ h => h, fun _ h => h⟩
theorem Step.trans {H H1 H2 : Hp} {M M1 M2 : Addr → Prop} (a : Step H M H1 M1) (b : Step H1 M1 H2 M2) : Step H M H2 M2 :=
  ⟨fun c o h n => b.keep c o (a.keep c o h n) fun z => n (a.old c (by rw [h]; simp) z), fun c h m => a.old c h (b.old c (a.there c h) m), fun c h => b.there c (a.there c h)⟩
section
variable {G : En} {H H' : Hp} {M M' : Addr → Prop}
theorem Step.stayL (s : Step H M H' M') {a : Addr} {vs : List V} (h : StayL H M a vs) : StayL H' M' a vs := by
  rcases h with ⟨h | ⟨o, h⟩, n⟩
  · exact ⟨.inl (s.keep a _ h n), fun z => n (s.old a (by rw [h]; simp) z)⟩
  · exact ⟨.inr ⟨o, s.keep a _ h n⟩, fun z => n (s.old a (by rw [h]; simp) z)⟩
theorem Step.stayS (s : Step H M H' M') {a : Addr} {vs : List V} (h : StayS G.K H M a vs) : StayS G.K H' M' a vs := by
  rcases h with h | h
  · exact .inl (s.stayL h)
  · exact .inr h
theorem Step.stayT (s : Step H M H' M') {a : Addr} {vs : List V} (h : StayT H M a vs) : StayT H' M' a vs := by
  rcases h with ⟨h | ⟨q, o, h⟩, n⟩
  · exact ⟨.inl (s.keep a _ h n), fun z => n (s.old a (by rw [h]; simp) z)⟩
  · exact ⟨.inr ⟨q, o, s.keep a _ h n⟩, fun z => n (s.old a (by rw [h]; simp) z)⟩
theorem Step.nm (s : Step H M H' M') {a : Addr} {o : HO} (h : H a = some o) (n : ¬ M a) : ¬ M' a := fun z => n (s.old a (by rw [h]; simp) z)
theorem VtxOk.step {fs : List (Str × V)} (s : Step H M H' M') (h : VtxOk H M fs) : VtxOk H' M' fs := fun v hv => by
  obtain ⟨a, o, us, e, h1, h2, h3⟩ := h v hv
  exact ⟨a, o, us, e, s.keep _ _ h1 h3, h2, s.nm h1 h3⟩
mutual
theorem Rep.step (s : Step H M H' M') : ∀ {v : V} {p : PV}, Rep G H M v p → Rep G H' M' v p
  | _, _, .non => .non
  | _, _, .bl b => .bl b
  | _, _, .int i => .int i
  | _, _, .str x => .str x
  | _, _, .ty x => .ty x
  | _, _, .cls x => .cls x
  | _, _, .scr h r => .scr (s.stayS h) (RepAll.step s r)
  | _, _, .lst h r => .lst (s.stayL h) (RepAll.step s r)
  | _, _, .tup h r => .tup (s.stayT h) (RepAll.step s r)
  | _, _, .dicK h n e r => .dicK (s.keep _ _ h n) (s.nm h n) e (RepAll.step s r)
  | _, _, .dicG h n k o e r => .dicG (s.keep _ _ h n) (s.nm h n) (RepAll.step s k) o e (RepAll.step s r)
  | _, _, .ins h n e r v => .ins (s.keep _ _ h n) (s.nm h n) e (RepAll.step s r) (v.step s)
theorem RepAll.step (s : Step H M H' M') : ∀ {vs : List V} {xs : List PV}, RepAll G H M vs xs → RepAll G H' M' vs xs
  | _, _, .nil => .nil
  | _, _, .cons h r => .cons (Rep.step s h) (RepAll.step s r)
end
theorem Obj.step (s : Step H M H' M') {a : Addr} {p : PV} (h : Obj G H M a p) (e : H' a = H a) : Obj G H' M' a p := by
  cases p with
  | lst xs => obtain ⟨vs, h1, h2⟩ := h; exact ⟨vs, e.trans h1, h2.step s⟩
  | dic ps =>
    rcases h with ⟨kvs, h1, h2, h3⟩ | ⟨c, h1, h2, h3, h4, h5⟩
    · exact .inl ⟨kvs, e.trans h1, h2, h3.step s⟩
    · exact .inr ⟨c, e.trans h1, h2.step s, h3, h4, h5.step s⟩
  | set ks => obtain ⟨L, xs, h1, h2, h3⟩ := h; exact ⟨L, xs, e.trans h1, h2.step s, h3⟩
  | ins C ns vs => obtain ⟨dx, fs, h1, h2, h3, h4⟩ := h; exact ⟨dx, fs, e.trans h1, h2, h3.step s, h4.step s⟩
  | _ => exact h.elim
theorem Obj.there {a : Addr} {p : PV} (h : Obj G H M a p) : H a ≠ none := by
  cases p with
  | lst xs => obtain ⟨vs, h1, h2⟩ := h; rw [h1]; simp
  | dic ps => rcases h with ⟨kvs, h1, _⟩ | ⟨c, h1, _⟩ <;> (rw [h1]; simp)
  | set ks => obtain ⟨L, xs, h1, _⟩ := h; rw [h1]; simp
  | ins C ns vs => obtain ⟨dx, fs, h1, _⟩ := h; rw [h1]; simp
  | _ => exact h.elim
def PV.plainB : PV → Bool
  | .dic _ => false
  | .set _ => false
  | _ => true
theorem Obj.frozen {a : Addr} {p : PV} (h : Obj G H M a p) (b : PV.plainB p = true) (n : ¬ M a) : Rep G H M (.ref a) p := by
  cases p with
  | lst xs => obtain ⟨vs, h1, h2⟩ := h; exact .lst ⟨.inl h1, n⟩ h2
  | dic ps => cases b
  | set ks => cases b
  | ins C ns vs => obtain ⟨dx, fs, h1, h2, h3, h4⟩ := h; exact .ins h1 n h2 h3 h4
  | _ => exact h.elim
theorem RepAll.length : ∀ {vs : List V} {xs : List PV}, RepAll G H M vs xs → vs.length = xs.length
  | _, _, .nil => rfl
  | _, _, .cons _ r => by rw [List.length_cons, List.length_cons, RepAll.length r]
theorem RepAll.get : ∀ {vs : List V} {xs : List PV} {i : Nat} {v : V}, RepAll G H M vs xs → vs[i]? = some v → ∃ x, xs[i]? = some x ∧ Rep G H M v x
  | _, _, _, _, .nil, e => by simp at e
  | _, _, 0, _, .cons h _, e => by simp at e; subst e; exact ⟨_, rfl, h⟩
  | _, _, i + 1, v, .cons _ r, e => by
    obtain ⟨x, e1, h⟩ := RepAll.get (i := i) (v := v) r (by simpa using e)
    exact ⟨x, by simpa using e1, h⟩
theorem RepAll.get' : ∀ {vs : List V} {xs : List PV} {i : Nat} {x : PV}, RepAll G H M vs xs → xs[i]? = some x → ∃ v, vs[i]? = some v ∧ Rep G H M v x
  | _, _, _, _, .nil, e => by simp at e
  | _, _, 0, _, .cons h _, e => by simp at e; subst e; exact ⟨_, rfl, h⟩
  | _, _, i + 1, x, .cons _ r, e => by
    obtain ⟨v, e1, h⟩ := RepAll.get' (i := i) (x := x) r (by simpa using e)
    exact ⟨v, by simpa using e1, h⟩
theorem RepAll.append : ∀ {vs ws : List V} {xs ys : List PV}, RepAll G H M vs xs → RepAll G H M ws ys → RepAll G H M (vs ++ ws) (xs ++ ys)
  | _, _, _, _, .nil, s => s
  | _, _, _, _, .cons h r, s => .cons h (RepAll.append r s)
theorem RepAll.take : ∀ {vs : List V} {xs : List PV} (n : Nat), RepAll G H M vs xs → RepAll G H M (vs.take n) (xs.take n)
  | _, _, 0, _ => .nil
  | _, _, _ + 1, .nil => .nil
  | _, _, n + 1, .cons h r => .cons h (RepAll.take n r)
theorem RepAll.drop : ∀ {vs : List V} {xs : List PV} (n : Nat), RepAll G H M vs xs → RepAll G H M (vs.drop n) (xs.drop n)
  | _, _, 0, r => r
  | _, _, _ + 1, .nil => .nil
  | _, _, n + 1, .cons _ r => RepAll.drop n r
theorem RepAll.set {v : V} {x : PV} (h : Rep G H M v x) : ∀ {vs : List V} {xs : List PV} (i : Nat), RepAll G H M vs xs → RepAll G H M (vs.set i v) (xs.set i x)
  | _, _, _, .nil => .nil
  | _, _, 0, .cons _ r => .cons h r
  | _, _, i + 1, .cons q r => .cons q (RepAll.set h i r)
theorem RepAll.erase : ∀ {vs : List V} {xs : List PV} (i : Nat), RepAll G H M vs xs → RepAll G H M (vs.eraseIdx i) (xs.eraseIdx i)
  | _, _, _, .nil => .nil
  | _, _, 0, .cons _ r => r
  | _, _, i + 1, .cons q r => .cons q (RepAll.erase i r)
theorem RepAll.mem : ∀ {vs : List V} {xs : List PV} {v : V}, RepAll G H M vs xs → v ∈ vs → ∃ x ∈ xs, Rep G H M v x
  | _, _, v, r, hv => by
    obtain ⟨i, hi⟩ := List.getElem?_of_mem hv
    obtain ⟨x, e, h⟩ := r.get hi
    exact ⟨x, List.mem_of_getElem? e, h⟩
def Acc (G : En) (H : Hp) (M : Addr → Prop) (v : V) (p : PV) : Prop := Rep G H M v p ∨ ∃ a, v = .ref a ∧ Obj G H M a p
theorem Acc.lst {v : V} {xs : List PV} (h : Acc G H M v (.lst xs)) : ∃ a vs, v = .ref a ∧ SqL G.K H a vs ∧ RepAll G H M vs xs := by
  rcases h with h | ⟨a, rfl, vs, h1, h2⟩
  · cases h with
    | lst s r => exact ⟨_, _, rfl, s.sq, r⟩
  · exact ⟨a, vs, rfl, SqL.of h1, h2⟩
theorem Acc.tup {v : V} {xs : List PV} (h : Acc G H M v (.tup xs)) : ∃ a vs, v = .ref a ∧ SqT G.K H a vs ∧ RepAll G H M vs xs := by
  rcases h with h | ⟨a, rfl, h⟩
  · cases h with
    | tup s r => exact ⟨_, _, rfl, s.sq, r⟩
  · exact h.elim
theorem Acc.tupX {v : V} {xs : List PV} (h : Acc G H M v (.tup xs)) : ∃ a vs, v = .ref a ∧ (H a = some (.tup vs) ∨ ∀ v ∈ vs, ∃ x, v = V.str x) ∧ RepAll G H M vs xs := by
  rcases h with h | ⟨a, rfl, h⟩
  · cases h with
    | tup s r => exact ⟨_, _, rfl, s.1.imp _root_.id fun z => z.1, r⟩
  · exact h.elim
theorem Acc.tupR {v : V} {xs : List PV} (h : Acc G H M v (.tup xs)) : Rep G H M v (.tup xs) := by
  rcases h with h | ⟨a, rfl, h⟩
  · exact h
  · exact h.elim
theorem Acc.scr {v : V} {xs : List PV} (h : Acc G H M v (.scr xs)) : ∃ a vs, v = .ref a ∧ SqL G.K H a vs ∧ RepAll G H M vs xs := by
  rcases h with h | ⟨a, rfl, h⟩
  · cases h with
    | scr s r => exact ⟨_, _, rfl, s.sq, r⟩
  · exact h.elim
theorem Acc.int {v : V} {i : Int} (h : Acc G H M v (.int i)) : v = .int i := by
  rcases h with h | ⟨a, rfl, h⟩
  · cases h; rfl
  · exact h.elim
theorem Acc.str {v : V} {i : Str} (h : Acc G H M v (.str i)) : v = .str i := by
  rcases h with h | ⟨a, rfl, h⟩
  · cases h; rfl
  · exact h.elim
theorem Acc.bl {v : V} {i : Bool} (h : Acc G H M v (.bl i)) : v = .bl i := by
  rcases h with h | ⟨a, rfl, h⟩
  · cases h; rfl
  · exact h.elim
theorem Acc.non {v : V} (h : Acc G H M v .non) : v = .non := by
  rcases h with h | ⟨a, rfl, h⟩
  · cases h; rfl
  · exact h.elim
theorem Acc.ins {v : V} {C : Addr} {ns : List Str} {ps : List PV} (h : Acc G H M v (.ins C ns ps)) : ∃ a dx fs, v = .ref a ∧ H a = some (.ins C dx fs) ∧ fs.map (·.1) = ns ∧ RepAll G H M (fs.map (·.2)) ps := by
  rcases h with h | ⟨a, rfl, h⟩
  · cases h with
    | ins h n e r v => exact ⟨_, _, _, rfl, h, e, r⟩
  · obtain ⟨dx, fs, h1, h2, h3, _⟩ := h; exact ⟨a, dx, fs, rfl, h1, h2, h3⟩
mutual
theorem Rep.dp : ∀ {v : V} {p : PV}, Rep G H M v p → PV.isD p = true → Dp G.K H v (PV.toD p)
  | _, _, .non, _ => by rw [PV.toD]; exact .non
  | _, _, .bl b, _ => by rw [PV.toD]; exact .bl b
  | _, _, .int i, _ => by rw [PV.toD]; exact .int i
  | _, _, .str x, _ => by rw [PV.toD]; exact .str x
  | _, _, .ty _, d => by rw [PV.isD] at d; cases d
  | _, _, .cls _, d => by rw [PV.isD] at d; cases d
  | _, _, .scr _ _, d => by rw [PV.isD] at d; cases d
  | _, _, .lst h r, d => by rw [PV.toD]; rw [PV.isD] at d; exact .lst h.sq (RepAll.dp r d)
  | _, _, .tup h r, d => by rw [PV.toD]; rw [PV.isD] at d; exact .tup h.sq (RepAll.dp r d)
  | _, _, .dicK _ _ _ _, d => by rw [PV.isD] at d; cases d
  | _, _, .dicG _ _ _ _ _ _, d => by rw [PV.isD] at d; cases d
  | _, _, .ins _ _ _ _ _, d => by rw [PV.isD] at d; cases d
theorem RepAll.dp : ∀ {vs : List V} {xs : List PV}, RepAll G H M vs xs → PV.isDs xs = true → DpAll G.K H vs (PV.toDs xs)
  | _, _, .nil, _ => by rw [PV.toDs]; exact .nil
  | _, _, .cons h r, d => by
    rw [PV.toDs]; rw [PV.isDs, Bool.and_eq_true] at d
    exact .cons (Rep.dp h d.1) (RepAll.dp r d.2)
end
theorem Acc.dp {v : V} {p : PV} (h : Acc G H M v p) (d : PV.isD p = true) : Dp G.K H v (PV.toD p) := by
  rcases h with h | ⟨a, rfl, h⟩
  · exact h.dp d
  · cases p with
    | lst xs =>
      obtain ⟨vs, h1, h2⟩ := h
      rw [PV.toD]; rw [PV.isD] at d
      exact .lst (SqL.of h1) (h2.dp d)
    | dic ps => rw [PV.isD] at d; cases d
    | set ks => rw [PV.isD] at d; cases d
    | ins C ns vs => rw [PV.isD] at d; cases d
    | _ => exact h.elim
theorem toDs_map (xs : List PV) : PV.toDs xs = xs.map PV.toD := by
  induction xs with
  | nil => rw [PV.toDs]; rfl
  | cons x xs ih => rw [PV.toDs, ih]; rfl
theorem isDs_all (xs : List PV) : PV.isDs xs = xs.all PV.isD := by
  induction xs with
  | nil => rw [PV.isDs]; rfl
  | cons x xs ih => rw [PV.isDs, ih]; rfl
end
end CP
namespace CP
open PySem PySem.Spec PyProof.Rows L2
inductive Sl where
  | no | val (p : PV) | own (p : PV) | io (p : PV)
abbrev PEnv := List Sl
inductive QV where
  | sh (p : PV) | fr (p : PV) | bor (i : Nat)
structure Gh extends En where
  H0 : Hp
  M0 : Addr → Prop
  iol : List (Nat × Addr)
  /-- things under way, not to be touched -/
  tmp : List (Addr × HO)
  /-- what is wished of an exception -/
  W : Value → Option Addr → L2.St → Hp → Prop := fun _ _ _ _ => False
structure XV where
  C : Addr
  fs : List (Str × PV)
def XRep (G : En) (H : Hp) (M : Addr → Prop) (cls : Value) (d : Option Addr) (x : XV) : Prop := cls = .ref x.C ∧ ∃ (dx : Addr) (vs : List (Str × V)), d = some dx ∧ H dx = some (.xd vs) ∧ ¬ M dx ∧ vs.map (·.1) = x.fs.map (·.1) ∧ RepAll G H M (vs.map (·.2)) (x.fs.map (·.2))
theorem XRep.step {G : En} {H H' : Hp} {M M' : Addr → Prop} {cls : Value} {d : Option Addr} {x : XV} (s : Step H M H' M') (h : XRep G H M cls d x) : XRep G H' M' cls d x := by
  obtain ⟨e, dx, vs, h1, h2, h3, h4, h5⟩ := h
  exact ⟨e, dx, vs, h1, s.keep _ _ h2 h3, s.nm h2 h3, h4, h5.step s⟩
def Mu (e : PEnv) (i : Nat) : Prop := ∃ p : PV, e[i]? = some (Sl.own p) ∨ e[i]? = some (Sl.io p)
structure StOk (G : Gh) (e : PEnv) (M : Addr → Prop) (σ : L2.St) (H : Hp) : Prop where
  len : e.length = σ.length
  val : ∀ (i : Nat) (p : PV), e[i]? = some (Sl.val p) → ∃ v, σ[i]? = some (some v) ∧ Rep G.toEn H M v p
  own : ∀ (i : Nat) (p : PV), e[i]? = some (Sl.own p) → ∃ a, σ[i]? = some (some (.ref a)) ∧ Obj G.toEn H M a p ∧ M a ∧ ¬ G.M0 a ∧ G.H0 a = none
  io : ∀ (i : Nat) (p : PV), e[i]? = some (Sl.io p) → ∃ a, (i, a) ∈ G.iol ∧ σ[i]? = some (some (.ref a)) ∧ Obj G.toEn H M a p ∧ M a ∧ ¬ G.M0 a
  inj : ∀ (i j : Nat) (a : Addr), Mu e i → Mu e j → σ[i]? = some (some (.ref a)) → σ[j]? = some (some (.ref a)) → i = j
  iol : ∀ (i : Nat) (a : Addr), (i, a) ∈ G.iol → σ[i]? = some (some (.ref a)) ∧ ∃ p, e[i]? = some (Sl.io p)
  m0 : ∀ a, G.M0 a → M a
  trk : ∀ a, M a → H a ≠ none
  prs : ∀ b o, G.H0 b = some o → (∀ i, (i, b) ∉ G.iol) → H b = some o
  tmp : ∀ a o, (a, o) ∈ G.tmp → G.M0 a ∧ H a = some o
section
variable {G : Gh} {e e' : PEnv} {M M' : Addr → Prop} {σ : L2.St} {H H' : Hp}
theorem StOk.mu (S : StOk G e M σ H) {i : Nat} (m : Mu e i) : ∃ a p, σ[i]? = some (some (.ref a)) ∧ (e[i]? = some (Sl.own p) ∨ e[i]? = some (Sl.io p)) ∧ Obj G.toEn H M a p ∧ M a ∧ ¬ G.M0 a ∧ (G.H0 a = none ∨ (i, a) ∈ G.iol) := by
  obtain ⟨p, h | h⟩ := m
  · obtain ⟨a, h1, h2, h3, h4, h5⟩ := S.own i p h
    exact ⟨a, p, h1, .inl h, h2, h3, h4, .inl h5⟩
  · obtain ⟨a, h0, h1, h2, h3, h4⟩ := S.io i p h
    exact ⟨a, p, h1, .inr h, h2, h3, h4, .inr h0⟩
theorem StOk.h0 (S : StOk G e M σ H) {p : Addr} (hp : H p = none) : G.H0 p = none := by
  cases q : G.H0 p with
  | none => rfl
  | some o =>
    by_cases c : ∃ i, (i, p) ∈ G.iol
    · obtain ⟨i, hi⟩ := c
      obtain ⟨h1, pp, h2⟩ := S.iol i p hi
      obtain ⟨a, _, h3, h4, _⟩ := S.io i pp h2
      rw [h1] at h3
      cases h3
      exact absurd hp h4.there
    · have := S.prs p o q fun i hi => c ⟨i, hi⟩
      rw [hp] at this; cases this
theorem StOk.go (S : StOk G e M σ H) (s : Step H M H' M') (sub : ∀ a, M a → M' a) (trk : ∀ a, M' a → H' a ≠ none) (eq : ∀ a, M a → H' a = H a) : StOk G e M' σ H' where
  len := S.len
  val := fun i p h => let ⟨v, h1, h2⟩ := S.val i p h; ⟨v, h1, h2.step s⟩
  own := fun i p h => let ⟨a, h1, h2, h3, h4, h5⟩ := S.own i p h; ⟨a, h1, h2.step s (eq a h3), sub a h3, h4, h5⟩
  io := fun i p h => let ⟨a, h0, h1, h2, h3, h4⟩ := S.io i p h; ⟨a, h0, h1, h2.step s (eq a h3), sub a h3, h4⟩
  inj := S.inj
  iol := S.iol
  m0 := fun a h => sub a (S.m0 a h)
  trk := trk
  prs := fun b o h n => by
    have q := S.prs b o h n
    by_cases c : M b
    · rw [eq b c]; exact q
    · exact s.keep b o q c
  tmp := fun a o h => let ⟨q1, q2⟩ := S.tmp a o h; ⟨q1, (eq a (S.m0 a q1)).trans q2⟩
theorem step_new {p : Addr} {o : HO} (hp : H p = none) : Step H M (L2.upd H p o) M :=
  ⟨fun b u h _ => by rw [upd_ne (ne_of_none h hp)]; exact h, fun _ _ h => h, fun b h => by
    by_cases c : b = p
    · rw [c, upd_same]; simp
    · rw [upd_ne c]; exact h⟩
theorem StOk.new (S : StOk G e M σ H) {p : Addr} {o : HO} (hp : H p = none) : StOk G e M σ (L2.upd H p o) :=
  S.go (step_new hp) (fun _ h => h) (fun a h => by
    by_cases c : a = p
    · rw [c, upd_same]; simp
    · rw [upd_ne c]; exact S.trk a h) (fun a h => by rw [upd_ne (fun c => by rw [c] at h; exact S.trk p h hp)])
theorem StOk.newM (S : StOk G e M σ H) {p : Addr} {o : HO} (hp : H p = none) : StOk G e (fun a => a = p ∨ M a) σ (L2.upd H p o) ∧ Step H M (L2.upd H p o) (fun a => a = p ∨ M a) := by
  have s : Step H M (L2.upd H p o) (fun a => a = p ∨ M a) := ⟨fun b u h _ => by rw [upd_ne (ne_of_none h hp)]; exact h, fun b h m => m.elim (fun c => by rw [c] at h; exact absurd hp h) id, (step_new (M := M) hp).there⟩
  refine ⟨S.go s (fun _ h => .inr h) (fun a h => ?_) (fun a h => by rw [upd_ne (fun c => by rw [c] at h; exact S.trk p h hp)]), s⟩
  rcases h with rfl | h
  · rw [upd_same]; simp
  · by_cases c : a = p
    · rw [c, upd_same]; simp
    · rw [upd_ne c]; exact S.trk a h
theorem step_less {A : Addr} : Step H M H (fun a => M a ∧ a ≠ A) := ⟨fun _ _ h _ => h, fun _ _ h => h.1, fun _ h => h⟩
def Res (G : Gh) (e : PEnv) (M : Addr → Prop) (σ : L2.St) (H : Hp) (v : V) : QV → Prop
  | .sh p => Rep G.toEn H M v p
  | .fr p => ∃ a, v = .ref a ∧ Obj G.toEn H M a p ∧ M a ∧ ¬ G.M0 a ∧ G.H0 a = none ∧ ∀ j, Mu e j → σ[j]? ≠ some (some (.ref a))
  | .bor i => σ[i]? = some (some v)
def Sl.get : Sl → Option PV
  | .no => none
  | .val p => some p
  | .own p => some p
  | .io p => some p
def acc (e : PEnv) : QV → Option PV
  | .sh p => some p
  | .fr p => some p
  | .bor i => (e[i]?).bind Sl.get
theorem Res.acc (S : StOk G e M σ H) {v : V} {r : QV} {p : PV} (h : Res G e M σ H v r) (e1 : CP.acc e r = some p) : Acc G.toEn H M v p := by
  cases r with
  | sh q => cases e1; exact .inl h
  | fr q => cases e1; obtain ⟨a, rfl, o, _⟩ := h; exact .inr ⟨a, rfl, o⟩
  | bor i =>
    have h : σ[i]? = some (some v) := h
    have e1 : (e[i]?).bind Sl.get = some p := e1
    cases c : e[i]? with
    | none => rw [c] at e1; cases e1
    | some s =>
      rw [c] at e1
      cases s with
      | no => cases e1
      | val q =>
        cases e1
        obtain ⟨w, h1, h2⟩ := S.val i _ c
        rw [h] at h1; cases h1
        exact .inl h2
      | own q =>
        cases e1
        obtain ⟨a, h1, h2, _⟩ := S.own i _ c
        rw [h] at h1; cases h1
        exact .inr ⟨a, rfl, h2⟩
      | io q =>
        cases e1
        obtain ⟨a, _, h1, h2, _⟩ := S.io i _ c
        rw [h] at h1; cases h1
        exact .inr ⟨a, rfl, h2⟩
def settle : QV → QV
  | .fr p => .sh p
  | r => r
def stl (r : QV) (k : Prop) : Prop := match r with
  | .fr p => PV.plainB p = true ∧ k
  | _ => k
theorem stl_of {r : QV} {k : Prop} (h : stl r k) : (∀ p, r = .fr p → PV.plainB p = true) ∧ k := by
  cases r with
  | sh p => exact ⟨(fun _ z => by cases z), h⟩
  | bor i => exact ⟨(fun _ z => by cases z), h⟩
  | fr p => exact ⟨(fun _ z => by cases z; exact h.1), h.2⟩
theorem Res.settle (S : StOk G e M σ H) {v : V} {r : QV} (h : Res G e M σ H v r) (b : ∀ p, r = .fr p → PV.plainB p = true) : ∃ M', StOk G e M' σ H ∧ Step H M H M' ∧ Res G e M' σ H v (settle r) := by
  cases r with
  | sh p => exact ⟨M, S, .refl, h⟩
  | bor i => exact ⟨M, S, .refl, h⟩
  | fr p =>
    obtain ⟨a, rfl, o, ma, m0, h0, nj⟩ := h
    have s : Step H M H (fun b => M b ∧ b ≠ a) := step_less
    refine ⟨_, ⟨S.len, fun i p h => let ⟨v, h1, h2⟩ := S.val i p h; ⟨v, h1, h2.step s⟩, fun i p h => ?_, fun i p h => ?_, S.inj, S.iol, fun b h => ⟨S.m0 b h, fun z => m0 (z ▸ h)⟩, fun b h => S.trk b h.1, S.prs, S.tmp⟩, s, ?_⟩
    · obtain ⟨b, h1, h2, h3, h4, h5⟩ := S.own i p h
      exact ⟨b, h1, h2.step s rfl, ⟨h3, fun z => nj i ⟨p, .inl h⟩ (z ▸ h1)⟩, h4, h5⟩
    · obtain ⟨b, h0, h1, h2, h3, h4⟩ := S.io i p h
      exact ⟨b, h0, h1, h2.step s rfl, ⟨h3, fun z => nj i ⟨p, .inr h⟩ (z ▸ h1)⟩, h4⟩
    · exact (o.step s rfl).frozen (b p rfl) fun z => z.2 rfl
theorem Res.later (s : Step H M H' M') {v : V} {r : QV} (h : Res G e M σ H v (CP.settle r)) : Res G e' M' σ H' v (CP.settle r) := by
  cases r with
  | sh p => exact Rep.step s h
  | bor i => exact h
  | fr p => exact Rep.step s h
def keep (r : QV) (e : PEnv) (k : PV → PEnv → Prop) : Prop :=
  match r with
  | .sh p => k p e
  | .fr p => PV.plainB p = true ∧ k p e
  | .bor i => match e[i]? with
    | some (Sl.val p) => k p e
    | some (Sl.own p) => PV.plainB p = true ∧ k p (e.set i (.val p))
    | _ => False
theorem get_lt {e : PEnv} {i : Nat} {s : Sl} (h : e[i]? = some s) : i < e.length := (List.getElem?_eq_some_iff.mp h).1
theorem mu_set {e : PEnv} {i : Nat} {p : PV} (hi : i < e.length) {j : Nat} (m : Mu (e.set i (.val p)) j) : j ≠ i ∧ Mu e j := by
  obtain ⟨q, h⟩ := m
  by_cases c : j = i
  · subst c
    rw [List.getElem?_set_self hi] at h
    rcases h with h | h <;> cases h
  · rw [List.getElem?_set_ne (Ne.symm c)] at h
    exact ⟨c, q, h⟩
theorem StOk.freeze (S : StOk G e M σ H) {i : Nat} {p : PV} {a : Addr} (pb : PV.plainB p = true) (hi : e[i]? = some (Sl.own p)) (ha : σ[i]? = some (some (.ref a))) :
    StOk G (e.set i (.val p)) (fun b => M b ∧ b ≠ a) σ H ∧ Step H M H (fun b => M b ∧ b ≠ a) ∧ Rep G.toEn H (fun b => M b ∧ b ≠ a) (.ref a) p := by
  have s : Step H M H (fun b => M b ∧ b ≠ a) := step_less
  obtain ⟨a', h1, h2, h3, h4, h5⟩ := S.own i p hi
  rw [ha] at h1; cases h1
  have rp : Rep G.toEn H (fun b => M b ∧ b ≠ a) (.ref a) p := (h2.step s rfl).frozen pb fun z => z.2 rfl
  have li := get_lt hi
  have other : ∀ j, j ≠ i → (e.set i (.val p))[j]? = e[j]? := fun j c => List.getElem?_set_ne (Ne.symm c)
  refine ⟨⟨by rw [List.length_set]; exact S.len, fun j q h => ?_, fun j q h => ?_, fun j q h => ?_, fun j k b mj mk => S.inj j k b (mu_set li mj).2 (mu_set li mk).2, fun j b h => ?_, fun b h => ⟨S.m0 b h, fun z => h4 (z ▸ h)⟩, fun b h => S.trk b h.1, S.prs, S.tmp⟩, s, rp⟩
  · by_cases c : j = i
    · subst c
      rw [List.getElem?_set_self li] at h; cases h
      exact ⟨_, ha, rp⟩
    · rw [other j c] at h
      obtain ⟨v, q1, q2⟩ := S.val j q h
      exact ⟨v, q1, q2.step s⟩
  · have ⟨c, m⟩ := mu_set li ⟨q, .inl h⟩
    rw [other j c] at h
    obtain ⟨b, q1, q2, q3, q4, q5⟩ := S.own j q h
    exact ⟨b, q1, q2.step s rfl, ⟨q3, fun z => c (S.inj j i a m ⟨p, .inl hi⟩ (z ▸ q1) ha)⟩, q4, q5⟩
  · have ⟨c, m⟩ := mu_set li ⟨q, .inr h⟩
    rw [other j c] at h
    obtain ⟨b, q0, q1, q2, q3, q4⟩ := S.io j q h
    exact ⟨b, q0, q1, q2.step s rfl, ⟨q3, fun z => c (S.inj j i a m ⟨p, .inl hi⟩ (z ▸ q1) ha)⟩, q4⟩
  · obtain ⟨q1, q, q2⟩ := S.iol j b h
    have c : j ≠ i := fun c => by rw [c, hi] at q2; cases q2
    exact ⟨q1, q, by rw [other j c]; exact q2⟩
theorem keep_ok (S : StOk G e M σ H) {v : V} {r : QV} {k : PV → PEnv → Prop} (h : Res G e M σ H v r) (hk : keep r e k) : ∃ p e' M', k p e' ∧ StOk G e' M' σ H ∧ Step H M H M' ∧ Rep G.toEn H M' v p := by
  cases r with
  | sh p => exact ⟨p, e, M, hk, S, .refl, h⟩
  | fr p =>
    obtain ⟨M', S', s, h'⟩ := Res.settle S h (fun q z => by cases z; exact hk.1)
    exact ⟨p, e, M', hk.2, S', s, h'⟩
  | bor i =>
    have h : σ[i]? = some (some v) := h
    unfold keep at hk
    dsimp only at hk
    cases c : e[i]? with
    | none => rw [c] at hk; exact hk.elim
    | some s =>
      rw [c] at hk
      cases s with
      | no => exact hk.elim
      | io q => exact hk.elim
      | val q =>
        obtain ⟨w, h1, h2⟩ := S.val i _ c
        rw [h] at h1; cases h1
        exact ⟨q, e, M, hk, S, .refl, h2⟩
      | own q =>
        obtain ⟨a, h1, h2, _⟩ := S.own i _ c
        rw [h] at h1; cases h1
        obtain ⟨S', s, rp⟩ := S.freeze hk.1 c h
        exact ⟨q, _, _, hk.2, S', s, rp⟩
def Sl.put : Sl → PV → Sl
  | .own _, p => .own p
  | .io _, p => .io p
  | s, _ => s
def putC : PEnv → Nat → PV → PEnv
  | [], _, _ => []
  | s :: e, 0, p => s.put p :: e
  | s :: e, i + 1, p => s :: putC e i p
def Sl.mget : Sl → Option PV
  | .own p => some p
  | .io p => some p
  | _ => none
def getC (e : PEnv) (i : Nat) : Option PV := (e[i]?).bind Sl.mget
theorem putC_len : ∀ (e : PEnv) (i : Nat) (p : PV), (putC e i p).length = e.length
  | [], _, _ => rfl
  | s :: e, 0, p => rfl
  | s :: e, i + 1, p => by rw [putC, List.length_cons, List.length_cons, putC_len e i p]
theorem putC_same : ∀ {e : PEnv} {i : Nat} (p : PV) {s : Sl}, e[i]? = some s → (putC e i p)[i]? = some (s.put p)
  | [], _, _, _, h => by simp at h
  | s :: e, 0, p, s', h => by simp at h; subst h; rfl
  | s :: e, i + 1, p, s', h => by rw [putC]; simpa using putC_same (i := i) p (by simpa using h)
theorem putC_ne : ∀ {e : PEnv} {i j : Nat} {p : PV}, j ≠ i → (putC e i p)[j]? = e[j]?
  | [], _, _, _, _ => rfl
  | s :: e, 0, 0, p, h => absurd rfl h
  | s :: e, 0, j + 1, p, _ => by rw [putC]; rfl
  | s :: e, i + 1, 0, p, _ => by rw [putC]; rfl
  | s :: e, i + 1, j + 1, p, h => by rw [putC]; simpa using putC_ne (e := e) (i := i) (j := j) (fun c => h (by rw [c]))
theorem mu_putC {e : PEnv} {i : Nat} {p : PV} {j : Nat} : Mu (putC e i p) j ↔ Mu e j := by
  by_cases c : j = i
  · subst c
    unfold Mu
    cases h : e[j]? with
    | none =>
      have : (putC e j p)[j]? = none := by
        refine List.getElem?_eq_none_iff.mpr ?_
        rw [putC_len]; exact List.getElem?_eq_none_iff.mp h
      rw [this]
    | some s =>
      rw [putC_same p h]
      cases s with
      | no => constructor <;> (rintro ⟨q, z | z⟩ <;> cases z)
      | val r => constructor <;> (rintro ⟨q, z | z⟩ <;> cases z)
      | own r => exact ⟨fun _ => ⟨r, .inl rfl⟩, fun _ => ⟨p, .inl rfl⟩⟩
      | io r => exact ⟨fun _ => ⟨r, .inr rfl⟩, fun _ => ⟨p, .inr rfl⟩⟩
  · unfold Mu; rw [putC_ne c]
theorem getC_mu {e : PEnv} {i : Nat} {p : PV} (h : getC e i = some p) : Mu e i ∧ (e[i]? = some (Sl.own p) ∨ e[i]? = some (Sl.io p)) := by
  unfold getC at h
  cases c : e[i]? with
  | none => rw [c] at h; cases h
  | some s =>
    rw [c] at h
    cases s with
    | no => cases h
    | val q => cases h
    | own q => cases h; exact ⟨⟨p, .inl c⟩, .inl rfl⟩
    | io q => cases h; exact ⟨⟨p, .inr c⟩, .inr rfl⟩
theorem StOk.change (S : StOk G e M σ H) {i : Nat} {p p' : PV} {a : Addr} {o : HO} (hi : getC e i = some p) (ha : σ[i]? = some (some (.ref a)))
    (ob : Step H M (L2.upd H a o) M → Obj G.toEn (L2.upd H a o) M a p') : StOk G (putC e i p') M σ (L2.upd H a o) ∧ Step H M (L2.upd H a o) M := by
  obtain ⟨mi, hs⟩ := getC_mu hi
  obtain ⟨a', q, h1, h2, h3, h4, h5, h6⟩ := S.mu mi
  rw [ha] at h1; cases h1
  have s : Step H M (L2.upd H a o) M := ⟨fun b u h n => by rw [upd_ne (fun c : b = a => n (by rw [c]; exact h4))]; exact h, fun _ _ h => h, fun b h => by
    by_cases c : b = a
    · rw [c, upd_same]; simp
    · rw [upd_ne c]; exact h⟩
  have obj := ob s
  have away : ∀ {j b}, j ≠ i → Mu e j → σ[j]? = some (some (.ref b)) → b ≠ a := fun {j b} c m hb z => c (S.inj j i a m mi (z ▸ hb) ha)
  have same : ∀ {x : Sl}, e[i]? = some x → (putC e i p')[i]? = some (x.put p') := fun h => putC_same p' h
  refine ⟨⟨by rw [putC_len]; exact S.len, fun j q h => ?_, fun j q h => ?_, fun j q h => ?_, fun j k b mj mk => S.inj j k b (mu_putC.mp mj) (mu_putC.mp mk), fun j b h => ?_, S.m0, fun b h => s.there b (S.trk b h), fun b u h n => ?_, fun b u h => ?_⟩, s⟩
  · by_cases c : j = i
    · subst c
      rcases hs with hs | hs <;> (rw [same hs] at h; cases h)
    · rw [putC_ne c] at h
      obtain ⟨v, q1, q2⟩ := S.val j q h
      exact ⟨v, q1, q2.step s⟩
  · by_cases c : j = i
    · subst c
      rcases hs with hs | hs
      · rw [same hs] at h; cases h
        obtain ⟨b, q1, q2, q3, q4, q5⟩ := S.own j _ hs
        rw [ha] at q1; cases q1
        exact ⟨a, ha, obj, q3, q4, q5⟩
      · rw [same hs] at h; cases h
    · rw [putC_ne c] at h
      obtain ⟨b, q1, q2, q3, q4, q5⟩ := S.own j q h
      exact ⟨b, q1, q2.step s (by rw [upd_ne (away c ⟨q, .inl h⟩ q1)]), q3, q4, q5⟩
  · by_cases c : j = i
    · subst c
      rcases hs with hs | hs
      · rw [same hs] at h; cases h
      · rw [same hs] at h; cases h
        obtain ⟨b, q0, q1, q2, q3, q4⟩ := S.io j _ hs
        rw [ha] at q1; cases q1
        exact ⟨a, q0, ha, obj, q3, q4⟩
    · rw [putC_ne c] at h
      obtain ⟨b, q0, q1, q2, q3, q4⟩ := S.io j q h
      exact ⟨b, q0, q1, q2.step s (by rw [upd_ne (away c ⟨q, .inr h⟩ q1)]), q3, q4⟩
  · obtain ⟨q1, q, q2⟩ := S.iol j b h
    refine ⟨q1, ?_⟩
    by_cases c : j = i
    · subst c
      exact ⟨p', by rw [same q2]; rfl⟩
    · exact ⟨q, by rw [putC_ne c]; exact q2⟩
  · have q := S.prs b u h n
    have c : b ≠ a := fun c => by
      rcases h6 with z | z
      · rw [c, z] at h; cases h
      · exact n i (c ▸ z)
    rw [upd_ne c]; exact q
  · obtain ⟨q1, q2⟩ := S.tmp b u h
    exact ⟨q1, by rw [upd_ne (fun c : b = a => h5 (by rw [← c]; exact q1))]; exact q2⟩
theorem StOk.newLst (S : StOk G e M σ H) {p : Addr} {vs : List V} {xs : List PV} (hp : H p = none) (r : RepAll G.toEn H M vs xs) :
    StOk G e (fun a => a = p ∨ M a) σ (L2.upd H p (.lst vs)) ∧ Step H M (L2.upd H p (.lst vs)) (fun a => a = p ∨ M a) ∧ Res G e (fun a => a = p ∨ M a) σ (L2.upd H p (.lst vs)) (.ref p) (.fr (.lst xs)) := by
  obtain ⟨S', s⟩ := S.newM (o := .lst vs) hp
  refine ⟨S', s, p, rfl, ⟨vs, upd_same, r.step s⟩, .inl rfl, fun z => ?_, S.h0 hp, fun j m z => ?_⟩
  · exact S.trk p (S.m0 p z) hp
  · obtain ⟨a, q, h1, _, h2, _⟩ := S.mu m
    rw [z] at h1; cases h1
    exact h2.there hp
theorem StOk.newTup (S : StOk G e M σ H) {p : Addr} {vs : List V} {xs : List PV} (hp : H p = none) (r : RepAll G.toEn H M vs xs) :
    StOk G e M σ (L2.upd H p (.tup vs)) ∧ Step H M (L2.upd H p (.tup vs)) M ∧ Res G e M σ (L2.upd H p (.tup vs)) (.ref p) (.sh (.tup xs)) := by
  have s : Step H M (L2.upd H p (.tup vs)) M := step_new hp
  exact ⟨S.new hp, s, .tup ⟨.inl upd_same, fun z => S.trk p z hp⟩ (r.step s)⟩
end
abbrev QE := PEnv → (QV → PEnv → Prop) → Prop
abbrev QT := PEnv → (Bool → PEnv → Prop) → Prop
abbrev QAs := PEnv → (List PV → PEnv → Prop) → Prop
abbrev QBs := PEnv → (List QV → PEnv → Prop) → Prop
def Aft (G : Gh) (σ : L2.St) (H : Hp) (M : Addr → Prop) (Q : VK) (r : QV) (e : PEnv) : Prop := ∀ v H' M', StOk G e M' σ H' → Step H M H' M' → Res G e M' σ H' v r → Q v H'
def LE (G : Gh) (q : QE) : TE := fun σ H Q => ∃ e M K, StOk G e M σ H ∧ q e K ∧ ∀ r e', K r e' → Aft G σ H M Q r e'
def LT (G : Gh) (q : QT) : TT := fun σ H Q => ∃ e M K, StOk G e M σ H ∧ q e K ∧ ∀ b e', K b e' → ∀ H' M', StOk G e' M' σ H' → Step H M H' M' → Q b H'
inductive ResAll (G : Gh) (e : PEnv) (M : Addr → Prop) (σ : L2.St) (H : Hp) : List V → List QV → Prop
  | nil : ResAll G e M σ H [] []
  | cons {v vs r rs} : Res G e M σ H v (settle r) → ResAll G e M σ H vs rs → ResAll G e M σ H (v :: vs) (settle r :: rs)
def LA (G : Gh) (q : QAs) : TA := fun σ H Q => ∃ e M K, StOk G e M σ H ∧ q e K ∧ ∀ ps e', K ps e' → ∀ vs H' M', StOk G e' M' σ H' → Step H M H' M' → RepAll G.toEn H' M' vs ps → Q vs H'
def LB (G : Gh) (q : QBs) : TA := fun σ H Q => ∃ e M K, StOk G e M σ H ∧ q e K ∧ ∀ rs e', K rs e' → ∀ vs H' M', StOk G e' M' σ H' → Step H M H' M' → ResAll G e' M' σ H' vs rs → Q vs H'
theorem PE.imp {X : Cx} {e : Expr} {t t' : TE} (h : PE X e t) (f : ∀ σ H Q, t' σ H Q → t σ H Q) : PE X e t' := ⟨fun pins s σ H Q I q => h.run pins s σ H Q I (f σ H Q q)⟩
theorem PT.imp {X : Cx} {e : Expr} {t t' : TT} (h : PT X e t) (f : ∀ σ H Q, t' σ H Q → t σ H Q) : PT X e t' := ⟨fun pins s σ H Q I q => h.run pins s σ H Q I (f σ H Q q)⟩
theorem PA.imp {X : Cx} {e : List Expr} {t t' : TA} (h : PA X e t) (f : ∀ σ H Q, t' σ H Q → t σ H Q) : PA X e t' := ⟨fun pos pins s σ H Q I q => h.run pos pins s σ H Q I (f σ H Q q)⟩
theorem PS.imp {X : Cx} {e : Stmt} {t t' : TS} (h : PS X e t) (f : ∀ D σ H, t' D σ H → t D σ H) : PS X e t' := ⟨fun pins s σ H D I q => h.run pins s σ H D I (f D σ H q)⟩
theorem PSs.imp {X : Cx} {e : List Stmt} {t t' : TS} (h : PSs X e t) (f : ∀ D σ H, t' D σ H → t D σ H) : PSs X e t' := ⟨fun pins s σ H D I q => h.run pins s σ H D I (f D σ H q)⟩
structure Good (G : Gh) (lv : Nat) (X : Cx) : Prop where
  P : X.prog = G.P
  w : X.w = G.w
  K : X.K = G.K
  calm : X.calm = true
  nd : X.N.Nodup
  room : Room lv X.A
section
variable {G : Gh} {lv : Nat} {X : Cx}
theorem Good.units (g : Good G lv X) : X.A.units + 64 < cLine := g.room.units
def qVar (i : Nat) : QE := fun e Q => match e[i]? with
  | some (Sl.val p) => Q (.sh p) e
  | some (Sl.own _) => Q (.bor i) e
  | some (Sl.io _) => Q (.bor i) e
  | _ => False
theorem q_var {i : Nat} {x : Expr} (h : PE X x (tVar i)) : PE X x (LE G (qVar i)) := by
  refine PE.imp h fun σ H Q ⟨e, M, K, S, q, f⟩ => ?_
  unfold qVar at q
  cases c : e[i]? with
  | none => rw [c] at q; exact q.elim
  | some s =>
    rw [c] at q
    cases s with
    | no => exact q.elim
    | val p =>
      obtain ⟨v, h1, h2⟩ := S.val i p c
      exact ⟨v, h1, f _ _ q v H M S .refl h2⟩
    | own p =>
      obtain ⟨a, h1, _⟩ := S.own i p c
      exact ⟨_, h1, f _ _ q _ H M S .refl h1⟩
    | io p =>
      obtain ⟨a, _, h1, _⟩ := S.io i p c
      exact ⟨_, h1, f _ _ q _ H M S .refl h1⟩
def qC (p : PV) : QE := fun e Q => Q (.sh p) e
theorem c_ok {v : V} {p : PV} (r : ∀ H M, Rep G.toEn H M v p) {σ : L2.St} {H : Hp} {Q : VK} (h : LE G (qC p) σ H Q) : Q v H := by
  obtain ⟨e, M, K, S, q, f⟩ := h
  exact f _ _ q _ _ _ S .refl (r H M)
theorem q_int {i j pos} : PE X (.Constant (.int i) j pos) (LE G (qC (.int i))) := PE.imp pe_int fun _ _ _ h => c_ok (fun _ _ => .int i) h
theorem q_bl {i j pos} : PE X (.Constant (.bool i) j pos) (LE G (qC (.bl i))) := PE.imp pe_bl fun _ _ _ h => c_ok (fun _ _ => .bl i) h
theorem q_non {j pos} : PE X (.Constant .none j pos) (LE G (qC .non)) := PE.imp pe_non fun _ _ _ h => c_ok (fun _ _ => .non) h
theorem q_str {i j pos} : PE X (.Constant (.str i) j pos) (LE G (qC (.str i))) := PE.imp pe_str fun _ _ _ h => c_ok (fun _ _ => .str i) h
theorem q_globI {x : Str} {u : Value} {i : Int} {pos : Pos} (hg : Gl X x) (hm : X.mg x = some u) (r : RelV (.int i) u) (hd : (x == ("__debug__" : Str)) = false := by decide) : PE X (.Name x pos) (LE G (qC (.int i))) := PE.imp (pe_glob hg hm r hd) fun _ _ _ h => c_ok (fun _ _ => .int i) h
theorem q_globS {x : Str} {u : Value} {i : Str} {pos : Pos} (hg : Gl X x) (hm : X.mg x = some u) (r : RelV (.str i) u) (hd : (x == ("__debug__" : Str)) = false := by decide) : PE X (.Name x pos) (LE G (qC (.str i))) := PE.imp (pe_glob hg hm r hd) fun _ _ _ h => c_ok (fun _ _ => .str i) h
def Lift2 (G : Gh) (r : R2) (g : PV → PV → (QV → Prop) → Prop) : Prop := ∀ (e : PEnv) (M : Addr → Prop) (σ : L2.St) (H : Hp) (v w : V) (p q : PV) (Q : VK) (k : QV → Prop),
  StOk G e M σ H → Acc G.toEn H M v p → Acc G.toEn H M w q → g p q k → (∀ r, k r → Aft G σ H M Q r e) → r v w H Q
def withP (o : Option PV) (k : PV → Prop) : Prop := match o with
  | some p => k p
  | none => False
theorem withP_of {o : Option PV} {k : PV → Prop} (h : withP o k) : ∃ p, o = some p ∧ k p := by
  cases o with
  | none => exact h.elim
  | some p => exact ⟨p, rfl, h⟩
def qOp (g : PV → PV → (QV → Prop) → Prop) (qa qb : QE) : QE := fun e Q => qa e fun r1 e1 => stl r1 <| qb e1 fun r2 e2 => withP (acc e2 r1) fun p1 => withP (acc e2 r2) fun p2 => g p1 p2 fun r => Q r e2
theorem acc_settle {e : PEnv} {r : QV} : acc e (settle r) = acc e r := by cases r <;> rfl
theorem Aft.from {σ : L2.St} {H H1 : Hp} {M M1 : Addr → Prop} {Q : VK} {r : QV} {e : PEnv} (h : Aft G σ H M Q r e) (s : Step H M H1 M1) : Aft G σ H1 M1 Q r e := fun v H' M' S' s' R => h v H' M' S' (s.trans s') R
theorem two_ok {qa qb : QE} {R : V → V → Hp → Prop} {e : PEnv} {M : Addr → Prop} {σ : L2.St} {H : Hp} {K : QV → QV → PEnv → Prop} (S : StOk G e M σ H)
    (h : qa e fun r1 e1 => stl r1 <| qb e1 fun r2 e2 => K r1 r2 e2)
    (f : ∀ r1 r2 e2, K r1 r2 e2 → ∀ v w H' M', StOk G e2 M' σ H' → Step H M H' M' → Res G e2 M' σ H' v (settle r1) → Res G e2 M' σ H' w r2 → R v w H') : LE G qa σ H fun x H1 => LE G qb σ H1 fun y H2 => R x y H2 := by
  refine ⟨e, M, _, S, h, fun r1 e1 k1 v H1 M1 S1 s1 R1 => ?_⟩
  obtain ⟨pb, k1⟩ := stl_of k1
  obtain ⟨M2, S2, s2, R2⟩ := Res.settle S1 R1 pb
  refine ⟨e1, M2, _, S2, k1, fun r2 e2 k2 w H3 M3 S3 s3 R3 => ?_⟩
  exact f r1 r2 e2 k2 v w H3 M3 S3 ((s1.trans s2).trans s3) (Res.later s3 R2) R3
theorem q_op {op : Operator} {r : R2} {g : PV → PV → (QV → Prop) → Prop} {a b : Expr} {qa qb : QE} {pos : Pos} (ho : OpR X (binaryOp op) r) (l : Lift2 G r g) (ha : PE X a (LE G qa)) (hb : PE X b (LE G qb)) : PE X (.BinOp a op b pos) (LE G (qOp g qa qb)) :=
  PE.imp (pe_op ho ha hb) fun σ H Q ⟨e, M, K, S, q, f⟩ => two_ok (R := fun x y H2 => r x y H2 Q) S q fun r1 r2 e2 z v w H' M' S' s' R1 R2 =>
    let ⟨p1, a1, z⟩ := withP_of z
    let ⟨p2, a2, gk⟩ := withP_of z
    l e2 M' σ H' v w p1 p2 Q _ S' (Res.acc S' R1 (acc_settle.trans a1)) (Res.acc S' R2 a2) gk fun r k => (f r e2 k).from s'
theorem q_cmp {op : CmpOp} {r : R2} {g : PV → PV → (QV → Prop) → Prop} {a b : Expr} {qa qb : QE} {pos : Pos} (ho : OpR X (compareOp op) r) (l : Lift2 G r g) (ha : PE X a (LE G qa)) (hb : PE X b (LE G qb)) (hm : behindInMarks op b = false) : PE X (.Compare a [op] [b] pos) (LE G (qOp g qa qb)) :=
  PE.imp (pe_cmpR ho ha hb hm) fun σ H Q ⟨e, M, K, S, q, f⟩ => two_ok (R := fun x y H2 => r x y H2 Q) S q fun r1 r2 e2 z v w H' M' S' s' R1 R2 =>
    let ⟨p1, a1, z⟩ := withP_of z
    let ⟨p2, a2, gk⟩ := withP_of z
    l e2 M' σ H' v w p1 p2 Q _ S' (Res.acc S' R1 (acc_settle.trans a1)) (Res.acc S' R2 a2) gk fun r k => (f r e2 k).from s'
def qTst (g : PV → PV → (Bool → Prop) → Prop) (qa qb : QE) : QT := fun e Q => qa e fun r1 e1 => stl r1 <| qb e1 fun r2 e2 => withP (acc e2 r1) fun p1 => withP (acc e2 r2) fun p2 => g p1 p2 fun b => Q b e2
def gB (g : PV → PV → (Bool → Prop) → Prop) : PV → PV → (QV → Prop) → Prop := fun p q k => g p q fun b => k (.sh (.bl b))
theorem t_cmp {op : CmpOp} {r : R2} {g : PV → PV → (Bool → Prop) → Prop} {a b : Expr} {qa qb : QE} {pos : Pos} (ho : OpR X (compareOp op) r) (l : Lift2 G r (gB g)) (mono : ∀ p q (k k' : Bool → Prop), (∀ b, k b → k' b) → g p q k → g p q k') (ha : PE X a (LE G qa)) (hb : PE X b (LE G qb)) (hm : behindInMarks op b = false) : PT X (.Compare a [op] [b] pos) (LT G (qTst g qa qb)) :=
  PT.imp (pt_cmpR ho ha hb hm) fun σ H Q ⟨e, M, K, S, q, f⟩ => two_ok (R := fun x y H2 => r x y H2 fun z H3 => ∃ k, z = .bl k ∧ Q k H3) S q fun r1 r2 e2 z v w H' M' S' s' R1 R2 =>
    let ⟨p1, a1, z⟩ := withP_of z
    let ⟨p2, a2, gk⟩ := withP_of z
    l e2 M' σ H' v w p1 p2 _ (fun r => ∃ b, r = .sh (.bl b) ∧ K b e2) S' (Res.acc S' R1 (acc_settle.trans a1)) (Res.acc S' R2 a2) (mono _ _ _ _ (fun b k => ⟨b, rfl, k⟩) gk) fun r ⟨b, hr, k⟩ => by
      subst hr
      intro v H3 M3 S3 s3 R3
      cases (show Rep G.toEn H3 M3 v (.bl b) from R3)
      exact ⟨b, rfl, f b e2 k H3 M3 S3 (s'.trans s3)⟩
def withB (p : PV) (k : Bool → Prop) : Prop := match p with
  | .bl b => k b
  | _ => False
theorem withB_of {p : PV} {k : Bool → Prop} (h : withB p k) : ∃ b, p = .bl b ∧ k b := by
  cases p with
  | bl b => exact ⟨b, rfl, h⟩
  | _ => exact h.elim
def qTb (q : QE) : QT := fun e Q => q e fun r e1 => withP (acc e1 r) fun p => withB p fun b => Q b e1
theorem t_val {a : Expr} {q : QE} (h : PE X a (LE G q)) (he : ∀ whole, isTrue a X.env whole = (do let v ← whole; standAt a.pos; holding [v] (truthy v)) := by intro _; rfl) : PT X a (LT G (qTb q)) :=
  PT.imp (pt_val h he) fun σ H Q ⟨e, M, K, S, q, f⟩ => ⟨e, M, _, S, q, fun r e1 z v H' M' S' s' R => by
    obtain ⟨p, a1, z⟩ := withP_of z
    obtain ⟨b, rfl, k⟩ := withB_of z
    have := (Res.acc S' R a1).bl
    subst this
    exact ⟨b, rfl, f b e1 k H' M' S' s'⟩⟩
end
end CP
namespace CP
open PySem PySem.Spec PyProof.Rows L2
abbrev SZ : Nat := 1000000
theorem sz_fits {n : Nat} (h : n ≤ SZ) : n ≤ sizeLine := by rw [sizeLine_eq]; unfold SZ at h; omega
theorem sz_fits1 {n : Nat} (h : n < SZ) : n < sizeLine := by rw [sizeLine_eq]; unfold SZ at h; omega
section
variable {G : Gh} {lv : Nat} {X : Cx}
def gInt (C : Int → Int → Prop) (f : Int → Int → Int) (p q : PV) (k : QV → Prop) : Prop := match p, q with
  | .int i, .int j => C i j ∧ k (.sh (.int (f i j)))
  | _, _ => False
theorem gInt_of {C : Int → Int → Prop} {f : Int → Int → Int} {p q : PV} {k : QV → Prop} (h : gInt C f p q k) : ∃ i j, p = .int i ∧ q = .int j ∧ C i j ∧ k (.sh (.int (f i j))) := by
  unfold gInt at h
  split at h
  · exact ⟨_, _, rfl, rfl, h⟩
  · exact h.elim
theorem aft_sh {e : PEnv} {M : Addr → Prop} {σ : L2.St} {H : Hp} {Q : VK} {v : V} {p : PV} (S : StOk G e M σ H) (h : Aft G σ H M Q (.sh p) e) (r : Rep G.toEn H M v p) : Q v H := h v H M S .refl r
theorem l_int {C : Int → Int → Prop} {f : Int → Int → Int} : Lift2 G (rI C fun i j => .int (f i j)) (gInt C f) := fun e M σ H v w p q Q k S a b g f => by
  obtain ⟨i, j, rfl, rfl, c, kk⟩ := gInt_of g
  rw [a.int, b.int]
  exact ⟨i, j, rfl, rfl, c, aft_sh S (f _ kk) (.int _)⟩
theorem l_int0 {f : Int → Int → Int} : Lift2 G (rI0 fun i j => .int (f i j)) (gInt (fun _ _ => True) f) := fun e M σ H v w p q Q k S a b g f => by
  obtain ⟨i, j, rfl, rfl, c, kk⟩ := gInt_of g
  rw [a.int, b.int]
  exact ⟨i, j, rfl, rfl, aft_sh S (f _ kk) (.int _)⟩
variable {a b : Expr} {qa qb : QE} {pos : Pos}
abbrev qSub := qOp (gInt (fun _ _ => True) fun i j => i - j)
abbrev qMul := qOp (gInt CMul fun i j => i * j)
abbrev qMod := qOp (gInt (fun _ j => 0 < j) fun i j => i % j)
abbrev qDiv := qOp (gInt CDiv fun i j => i / j)
abbrev qPow := qOp (gInt CPow fun i j => i ^ j.toNat)
theorem q_sub (ha : PE X a (LE G qa)) (hb : PE X b (LE G qb)) : PE X (.BinOp a .Sub b pos) (LE G (qSub qa qb)) := q_op op_sub l_int0 ha hb
theorem q_mul (ha : PE X a (LE G qa)) (hb : PE X b (LE G qb)) : PE X (.BinOp a .Mult b pos) (LE G (qMul qa qb)) := q_op op_mul l_int ha hb
theorem q_mod (ha : PE X a (LE G qa)) (hb : PE X b (LE G qb)) : PE X (.BinOp a .Mod b pos) (LE G (qMod qa qb)) := q_op op_mod l_int ha hb
theorem q_div (ha : PE X a (LE G qa)) (hb : PE X b (LE G qb)) : PE X (.BinOp a .FloorDiv b pos) (LE G (qDiv qa qb)) := q_op op_fdiv l_int ha hb
theorem q_pow (ha : PE X a (LE G qa)) (hb : PE X b (LE G qb)) : PE X (.BinOp a .Pow b pos) (LE G (qPow qa qb)) := q_op op_pow l_int ha hb
def rCatQ (K : PySem.W.Frag) : R2 := fun x y H Q => ∃ l b xs zs, x = .ref l ∧ y = .ref b ∧ SqL K H l xs ∧ SqL K H b zs ∧ xs.length + zs.length ≤ sizeLine ∧ ∀ p, H p = none → Q (.ref p) (L2.upd H p (.lst (xs ++ zs)))
theorem op_catQ : OpR X (binaryOp .Add) (rCatQ X.K) := by
  intro pins s σ H x y v u Q I rx ry h
  obtain ⟨l, b, xs, zs, rfl, rfl, hl, hb, hz, q⟩ := h
  cases rx
  cases ry
  obtain ⟨vs, r, ⟨⟨c1, d1, da1, s1⟩, n1, g1, hc1, hd1, hda1⟩, z1⟩ := I.list hl
  obtain ⟨ws, r2, ⟨⟨c2, d2, da2, s2⟩, n2, g2, hc2, hd2, hda2⟩, z2⟩ := I.list hb
  simp only at hc1 hda1 hc2 hda2
  subst hc1 hda1 hc2 hda2
  have lv := r.length
  have lw := r2.length
  refine concat_meets ⟨_, g1, rfl⟩ ⟨_, g2, rfl⟩ noFill_list_add seq_list_add PySem.F.slot_list_add PySem.F.entry_list_add (PySem.F.args_list_add_2 _ _)
    (list_addW l b vs.toArray ws.toArray n1 n2 d1 d2 s1 s2 (by rw [List.size_toArray, List.size_toArray]; omega)) ⟨g1, g2, ?_⟩
  have e : vs.toArray ++ ws.toArray = (vs ++ ws).toArray := by simp
  rw [e]
  exact ⟨.ref _, _, I.lnew (t' := s.toks) (r.append r2) (by rw [List.length_append]; omega), rfl, q _ I.fresh⟩
def rAddS : R2 := fun x y H Q => ∃ i j, x = .str i ∧ y = .str j ∧ i.length + j.length ≤ sizeLine ∧ Q (.str (i ++ j)) H
def gAdd (p q : PV) (k : QV → Prop) : Prop := match p, q with
  | .int i, .int j => k (.sh (.int (i + j)))
  | .str x, .str y => x.length + y.length ≤ SZ ∧ k (.sh (.str (x ++ y)))
  | .lst xs, .lst ys => xs.length + ys.length ≤ SZ ∧ k (.fr (.lst (xs ++ ys)))
  | .scr xs, .lst ys => xs.length + ys.length ≤ SZ ∧ k (.fr (.lst (xs ++ ys)))
  | .lst xs, .scr ys => xs.length + ys.length ≤ SZ ∧ k (.fr (.lst (xs ++ ys)))
  | .tup xs, .tup ys => xs ≠ [] ∧ xs.length + ys.length ≤ SZ ∧ k (.sh (.tup (xs ++ ys)))
  | _, _ => False
abbrev rAddQ (K : PySem.W.Frag) : R2 := fun x y H Q => rI0 (fun i j => .int (i + j)) x y H Q ∨ (rAddS x y H Q ∨ (rCatQ K x y H Q ∨ rCatT K x y H Q))
theorem l_add : Lift2 G (rAddQ G.K) gAdd := fun e M σ H v w p q Q k S a b g f => by
  unfold gAdd at g
  split at g
  · rename_i i j
    rw [a.int, b.int]
    exact .inl ⟨i, j, rfl, rfl, aft_sh S (f _ g) (.int _)⟩
  · rename_i i j
    rw [a.str, b.str]
    exact .inr (.inl ⟨i, j, rfl, rfl, sz_fits g.1, aft_sh S (f _ g.2) (.str _)⟩)
  · rename_i xs ys
    obtain ⟨a1, vs, rfl, s1, r1⟩ := a.lst
    obtain ⟨a2, ws, rfl, s2, r2⟩ := b.lst
    refine .inr (.inr (.inl ⟨a1, a2, vs, ws, rfl, rfl, s1, s2, by rw [r1.length, r2.length]; exact sz_fits g.1, fun p hp => ?_⟩))
    obtain ⟨S', st, rs⟩ := S.newLst hp (r1.append r2)
    exact f _ g.2 _ _ _ S' st rs
  · rename_i xs ys
    obtain ⟨a1, vs, rfl, s1, r1⟩ := a.scr
    obtain ⟨a2, ws, rfl, s2, r2⟩ := b.lst
    refine .inr (.inr (.inl ⟨a1, a2, vs, ws, rfl, rfl, s1, s2, by rw [r1.length, r2.length]; exact sz_fits g.1, fun p hp => ?_⟩))
    obtain ⟨S', st, rs⟩ := S.newLst hp (r1.append r2)
    exact f _ g.2 _ _ _ S' st rs
  · rename_i xs ys
    obtain ⟨a1, vs, rfl, s1, r1⟩ := a.lst
    obtain ⟨a2, ws, rfl, s2, r2⟩ := b.scr
    refine .inr (.inr (.inl ⟨a1, a2, vs, ws, rfl, rfl, s1, s2, by rw [r1.length, r2.length]; exact sz_fits g.1, fun p hp => ?_⟩))
    obtain ⟨S', st, rs⟩ := S.newLst hp (r1.append r2)
    exact f _ g.2 _ _ _ S' st rs
  · rename_i xs ys
    have a' := a
    obtain ⟨a1, vs, rfl, s1, r1⟩ := a.tup
    obtain ⟨a2, ws, rfl, s2, r2⟩ := b.tup
    refine .inr (.inr (.inr ⟨a1, a2, vs, ws, rfl, rfl, s1, s2, fun z => g.1 ?_, by rw [r1.length, r2.length]; exact sz_fits g.2.1, fun z => ?_, fun _ p hp => ?_⟩))
    · have := r1.length; rw [z] at this
      exact List.length_eq_zero_iff.mp this.symm
    · have := r2.length; rw [z] at this
      have : ys = [] := List.length_eq_zero_iff.mp this.symm
      rw [this, List.append_nil] at g
      exact aft_sh S (f _ g.2.2) a'.tupR
    · obtain ⟨S', st, rs⟩ := S.newTup hp (r1.append r2)
      exact f _ g.2.2 _ _ _ S' st rs
  · exact g.elim
theorem op_addQ (hK : X.K = G.K) : OpR X (binaryOp .Add) (rAddQ G.K) := hK ▸ OpR.or op_add (OpR.or op_add_str (OpR.or op_catQ op_catT))
abbrev qAdd := qOp gAdd
theorem q_add (g : Good G lv X) (ha : PE X a (LE G qa)) (hb : PE X b (LE G qb)) : PE X (.BinOp a .Add b pos) (LE G (qAdd qa qb)) := q_op (op_addQ g.K) l_add ha hb
def gNeg (p : PV) (k : QV → Prop) : Prop := match p with
  | .int i => k (.sh (.int (-i)))
  | _ => False
def qUn (g : PV → (QV → Prop) → Prop) (qa : QE) : QE := fun e Q => qa e fun r e1 => withP (acc e1 r) fun p => g p fun r => Q r e1
theorem q_neg (ha : PE X a (LE G qa)) : PE X (.UnaryOp .USub a pos) (LE G (qUn gNeg qa)) := PE.imp (pe_un un_neg ha) fun σ H Q ⟨e, M, K, S, q, f⟩ => ⟨e, M, _, S, q, fun r e1 z v H' M' S' s' R => by
  obtain ⟨p, a1, z⟩ := withP_of z
  unfold gNeg at z
  split at z
  · rename_i i
    rw [(Res.acc S' R a1).int]
    exact ⟨i, rfl, aft_sh S' ((f _ _ z).from s') (.int _)⟩
  · exact z.elim⟩
def Shp (p : PV) : Prop := PV.isD p = true ∧ SeqAt.shaped (PV.toD p) = true
def gEq (p q : PV) (k : Bool → Prop) : Prop := match p, q with
  | .int i, .int j => k (decide (i = j))
  | .str i, .str j => k (decide (i = j))
  | .bl i, .bl j => k (decide (i = j))
  | p, q => Shp p ∧ Shp q ∧ k (PyData.eqv (PV.toD p) (PV.toD q))
theorem gEq_of {p q : PV} {k : Bool → Prop} (h : gEq p q k) : (∃ i j, p = .int i ∧ q = .int j ∧ k (decide (i = j))) ∨ (∃ i j, p = .str i ∧ q = .str j ∧ k (decide (i = j))) ∨ (∃ i j, p = .bl i ∧ q = .bl j ∧ k (decide (i = j))) ∨ (Shp p ∧ Shp q ∧ k (PyData.eqv (PV.toD p) (PV.toD q))) := by
  unfold gEq at h
  split at h
  · exact .inl ⟨_, _, rfl, rfl, h⟩
  · exact .inr (.inl ⟨_, _, rfl, rfl, h⟩)
  · exact .inr (.inr (.inl ⟨_, _, rfl, rfl, h⟩))
  · exact .inr (.inr (.inr h))
theorem gEq_mono (p q : PV) (k k' : Bool → Prop) (f : ∀ b, k b → k' b) (h : gEq p q k) : gEq p q k' := by
  unfold gEq at h ⊢
  split at h <;> first | exact f _ h | exact ⟨h.1, h.2.1, f _ h.2.2⟩
def gNe (p q : PV) (k : Bool → Prop) : Prop := gEq p q fun b => k (!b)
theorem gNe_mono (p q : PV) (k k' : Bool → Prop) (f : ∀ b, k b → k' b) (h : gNe p q k) : gNe p q k' := gEq_mono _ _ _ _ (fun b => f _) h
theorem dec_V {α : Type} [DecidableEq α] {c : α → V} (inj : ∀ i j, c i = c j → i = j) (i j : α) : decide (c i = c j) = decide (i = j) := decide_eq_decide.mpr ⟨inj i j, fun z => by rw [z]⟩
theorem l_eq : Lift2 G (fun x y H Q => rEq x y H Q ∨ rEqD G.K x y H Q) (gB gEq) := fun e M σ H v w p q Q k S a b g f => by
  have fin : ∀ c, k (.sh (.bl c)) → Q (.bl c) H := fun c kk => aft_sh S (f _ kk) (.bl c)
  rcases gEq_of g with ⟨i, j, rfl, rfl, h⟩ | ⟨i, j, rfl, rfl, h⟩ | ⟨i, j, rfl, rfl, h⟩ | ⟨h1, h2, h⟩
  · rw [a.int, b.int]; exact .inl ⟨rfl, by rw [dec_V (c := V.int) (fun _ _ z => V.int.inj z)]; exact fin _ h⟩
  · rw [a.str, b.str]; exact .inl ⟨rfl, by rw [dec_V (c := V.str) (fun _ _ z => V.str.inj z)]; exact fin _ h⟩
  · rw [a.bl, b.bl]; exact .inl ⟨rfl, by rw [dec_V (c := V.bl) (fun _ _ z => V.bl.inj z)]; exact fin _ h⟩
  · exact .inr ⟨_, _, a.dp h1.1, b.dp h2.1, h1.2, h2.2, fin _ h⟩
theorem l_ne : Lift2 G (fun x y H Q => rNe x y H Q ∨ rNeD G.K x y H Q) (gB gNe) := fun e M σ H v w p q Q k S a b g f => by
  have fin : ∀ c, k (.sh (.bl c)) → Q (.bl c) H := fun c kk => aft_sh S (f _ kk) (.bl c)
  rcases gEq_of (show gEq p q (fun b => k (.sh (.bl (!b)))) from g) with ⟨i, j, rfl, rfl, h⟩ | ⟨i, j, rfl, rfl, h⟩ | ⟨i, j, rfl, rfl, h⟩ | ⟨h1, h2, h⟩
  · rw [a.int, b.int]; exact .inl ⟨rfl, by rw [dec_V (c := V.int) (fun _ _ z => V.int.inj z)]; exact fin _ h⟩
  · rw [a.str, b.str]; exact .inl ⟨rfl, by rw [dec_V (c := V.str) (fun _ _ z => V.str.inj z)]; exact fin _ h⟩
  · rw [a.bl, b.bl]; exact .inl ⟨rfl, by rw [dec_V (c := V.bl) (fun _ _ z => V.bl.inj z)]; exact fin _ h⟩
  · exact .inr ⟨_, _, a.dp h1.1, b.dp h2.1, h1.2, h2.2, fin _ h⟩
theorem op_eqQ (g : Good G lv X) : OpR X (compareOp .Eq) (fun x y H Q => rEq x y H Q ∨ rEqD G.K x y H Q) := g.K ▸ OpR.or op_eq (op_eqD g.units)
theorem op_neQ (g : Good G lv X) : OpR X (compareOp .NotEq) (fun x y H Q => rNe x y H Q ∨ rNeD G.K x y H Q) := g.K ▸ OpR.or op_ne (op_neD g.units)
def Ordd (p q : PV) : Prop := PV.isD p = true ∧ PV.isD q = true ∧ PySem.W.alike (PV.toD p) (PV.toD q) = true ∧ PV.toD p ≠ .none ∧ (PV.toD p).depth ≤ 60
def gRel (f : Int → Int → Bool) (d : PyData → PyData → Bool) (p q : PV) (k : Bool → Prop) : Prop := match p, q with
  | .int i, .int j => k (f i j)
  | p, q => Ordd p q ∧ k (d (PV.toD p) (PV.toD q))
theorem gRel_of {f : Int → Int → Bool} {d : PyData → PyData → Bool} {p q : PV} {k : Bool → Prop} (h : gRel f d p q k) : (∃ i j, p = .int i ∧ q = .int j ∧ k (f i j)) ∨ (Ordd p q ∧ k (d (PV.toD p) (PV.toD q))) := by
  unfold gRel at h
  split at h
  · exact .inl ⟨_, _, rfl, rfl, h⟩
  · exact .inr h
theorem gRel_mono {f : Int → Int → Bool} {d : PyData → PyData → Bool} (p q : PV) (k k' : Bool → Prop) (g : ∀ b, k b → k' b) (h : gRel f d p q k) : gRel f d p q k' := by
  unfold gRel at h ⊢
  split at h <;> first | exact g _ h | exact ⟨h.1, g _ h.2⟩
def rRelD (K : PySem.W.Frag) (d : PyData → PyData → Bool) : R2 := fun x y H Q => ∃ a b, Dp K H x a ∧ Dp K H y b ∧ PySem.W.alike a b = true ∧ a ≠ .none ∧ a.depth ≤ 60 ∧ Q (.bl (d a b)) H
theorem l_rel {f : Int → Int → Bool} {d : PyData → PyData → Bool} : Lift2 G (fun x y H Q => rI0 (fun i j => .bl (f i j)) x y H Q ∨ rRelD G.K d x y H Q) (gB (gRel f d)) := fun e M σ H v w p q Q k S a b g f => by
  have fin : ∀ c, k (.sh (.bl c)) → Q (.bl c) H := fun c kk => aft_sh S (f _ kk) (.bl c)
  rcases gRel_of g with ⟨i, j, rfl, rfl, h⟩ | ⟨⟨h1, h2, h3, h4, h5⟩, h⟩
  · rw [a.int, b.int]; exact .inl ⟨i, j, rfl, rfl, fin _ h⟩
  · exact .inr ⟨_, _, a.dp h1, b.dp h2, h3, h4, h5, fin _ h⟩
abbrev dLt : PyData → PyData → Bool := fun a b => PySem.W.dataLt a b
abbrev dGt : PyData → PyData → Bool := fun a b => PySem.W.dataLt b a
abbrev dLe : PyData → PyData → Bool := fun a b => !PySem.W.dataLt b a
abbrev dGe : PyData → PyData → Bool := fun a b => !PySem.W.dataLt a b
theorem op_ltDq (hu : X.A.units + 64 < cLine) : OpR X (compareOp .Lt) (rRelD X.K dLt) := fun pins s σ H x y v u Q I rx ry ⟨a, b, ha, hb, al, nn, dp, q⟩ => by
  obtain ⟨as, r1⟩ := Dp.reads I a x v ha rx
  obtain ⟨bs, r2⟩ := Dp.reads I b y u hb ry
  exact PySem.W.lt_data r1 r2 al nn (by omega) ⟨.bl _, H, I, rfl, q⟩
theorem op_gtDq (hu : X.A.units + 64 < cLine) : OpR X (compareOp .Gt) (rRelD X.K dGt) := fun pins s σ H x y v u Q I rx ry ⟨a, b, ha, hb, al, nn, dp, q⟩ => by
  obtain ⟨as, r1⟩ := Dp.reads I a x v ha rx
  obtain ⟨bs, r2⟩ := Dp.reads I b y u hb ry
  exact PySem.W.gt_data r1 r2 al nn (by omega) ⟨.bl _, H, I, rfl, q⟩
theorem op_leDq (hu : X.A.units + 64 < cLine) : OpR X (compareOp .LtE) (rRelD X.K dLe) := fun pins s σ H x y v u Q I rx ry ⟨a, b, ha, hb, al, nn, dp, q⟩ => by
  obtain ⟨as, r1⟩ := Dp.reads I a x v ha rx
  obtain ⟨bs, r2⟩ := Dp.reads I b y u hb ry
  exact PySem.W.le_data r1 r2 al nn (by omega) ⟨.bl _, H, I, rfl, q⟩
theorem op_geDq (hu : X.A.units + 64 < cLine) : OpR X (compareOp .GtE) (rRelD X.K dGe) := fun pins s σ H x y v u Q I rx ry ⟨a, b, ha, hb, al, nn, dp, q⟩ => by
  obtain ⟨as, r1⟩ := Dp.reads I a x v ha rx
  obtain ⟨bs, r2⟩ := Dp.reads I b y u hb ry
  exact PySem.W.ge_data r1 r2 al nn (by omega) ⟨.bl _, H, I, rfl, q⟩
abbrev gLt := gRel (fun i j => decide (i < j)) dLt
abbrev gLe := gRel (fun i j => decide (i ≤ j)) dLe
abbrev gGt := gRel (fun i j => decide (j < i)) dGt
abbrev gGe := gRel (fun i j => decide (j ≤ i)) dGe
theorem op_ltQ (g : Good G lv X) : OpR X (compareOp .Lt) (fun x y H Q => rI0 (fun i j => .bl (decide (i < j))) x y H Q ∨ rRelD G.K dLt x y H Q) := g.K ▸ OpR.or op_lt (op_ltDq g.units)
theorem op_leQ (g : Good G lv X) : OpR X (compareOp .LtE) (fun x y H Q => rI0 (fun i j => .bl (decide (i ≤ j))) x y H Q ∨ rRelD G.K dLe x y H Q) := g.K ▸ OpR.or op_le (op_leDq g.units)
theorem op_gtQ (g : Good G lv X) : OpR X (compareOp .Gt) (fun x y H Q => rI0 (fun i j => .bl (decide (j < i))) x y H Q ∨ rRelD G.K dGt x y H Q) := g.K ▸ OpR.or op_gt (op_gtDq g.units)
theorem op_geQ (g : Good G lv X) : OpR X (compareOp .GtE) (fun x y H Q => rI0 (fun i j => .bl (decide (j ≤ i))) x y H Q ∨ rRelD G.K dGe x y H Q) := g.K ▸ OpR.or op_ge (op_geDq g.units)
structure CmpQ (G : Gh) (X : Cx) (op : CmpOp) (g : PV → PV → (Bool → Prop) → Prop) : Prop where
  ex : ∃ r, OpR X (compareOp op) r ∧ Lift2 G r (gB g)
  mono : ∀ p q (k k' : Bool → Prop), (∀ b, k b → k' b) → g p q k → g p q k'
theorem c_eq (g : Good G lv X) : CmpQ G X .Eq gEq := ⟨⟨_, op_eqQ g, l_eq⟩, gEq_mono⟩
theorem c_ne (g : Good G lv X) : CmpQ G X .NotEq gNe := ⟨⟨_, op_neQ g, l_ne⟩, gNe_mono⟩
theorem c_lt (g : Good G lv X) : CmpQ G X .Lt gLt := ⟨⟨_, op_ltQ g, l_rel⟩, gRel_mono⟩
theorem c_le (g : Good G lv X) : CmpQ G X .LtE gLe := ⟨⟨_, op_leQ g, l_rel⟩, gRel_mono⟩
theorem c_gt (g : Good G lv X) : CmpQ G X .Gt gGt := ⟨⟨_, op_gtQ g, l_rel⟩, gRel_mono⟩
theorem c_ge (g : Good G lv X) : CmpQ G X .GtE gGe := ⟨⟨_, op_geQ g, l_rel⟩, gRel_mono⟩
abbrev qCmp (g : PV → PV → (Bool → Prop) → Prop) := qOp (gB g)
theorem v_cmp {op : CmpOp} {g : PV → PV → (Bool → Prop) → Prop} (c : CmpQ G X op g) (ha : PE X a (LE G qa)) (hb : PE X b (LE G qb)) (hm : behindInMarks op b = false := by first | exact nomark _ | rfl) : PE X (.Compare a [op] [b] pos) (LE G (qCmp g qa qb)) := by
  obtain ⟨r, h1, h2⟩ := c.ex
  exact q_cmp h1 h2 ha hb hm
theorem t_cmpQ {op : CmpOp} {g : PV → PV → (Bool → Prop) → Prop} (c : CmpQ G X op g) (ha : PE X a (LE G qa)) (hb : PE X b (LE G qb)) (hm : behindInMarks op b = false := by first | exact nomark _ | rfl) : PT X (.Compare a [op] [b] pos) (LT G (qTst g qa qb)) := by
  obtain ⟨r, h1, h2⟩ := c.ex
  exact t_cmp h1 h2 c.mono ha hb hm
end
end CP
namespace CP
open PySem PySem.Spec PyProof.Rows L2
section
variable {G : Gh} {lv : Nat} {X : Cx}
def qAnd (a b : QT) : QT := fun e Q => a e fun c e1 => if c = true then b e1 Q else Q false e1
def qOr (a b : QT) : QT := fun e Q => a e fun c e1 => if c = true then Q true e1 else b e1 Q
def qNot (a : QT) : QT := fun e Q => a e fun c e1 => Q (!c) e1
theorem PW.imp {X : Cx} {e : Expr} {t t' : TT} (h : PW X e t) (f : ∀ σ H Q, t' σ H Q → t σ H Q) : PW X e t' := ⟨fun wh pins s σ H Q I q => h.run wh pins s σ H Q I (f σ H Q q)⟩
variable {a b c : Expr} {ta tb : QT} {qa qb : QE} {rest : List Expr} {pos : Pos}
theorem lt_and {σ : L2.St} {H : Hp} {Q : Bool → Hp → Prop} (h : LT G (qAnd ta tb) σ H Q) : tAnd (LT G ta) (LT G tb) σ H Q := by
  obtain ⟨e, M, K, S, q, f⟩ := h
  refine ⟨e, M, _, S, q, fun c e1 k H1 M1 S1 s1 => ?_⟩
  cases c with
  | true => exact ⟨e1, M1, K, S1, k, fun b e2 kb H2 M2 S2 s2 => f b e2 kb H2 M2 S2 (s1.trans s2)⟩
  | false => exact f false e1 k H1 M1 S1 s1
theorem lt_or {σ : L2.St} {H : Hp} {Q : Bool → Hp → Prop} (h : LT G (qOr ta tb) σ H Q) : tOr (LT G ta) (LT G tb) σ H Q := by
  obtain ⟨e, M, K, S, q, f⟩ := h
  refine ⟨e, M, _, S, q, fun c e1 k H1 M1 S1 s1 => ?_⟩
  cases c with
  | false => exact ⟨e1, M1, K, S1, k, fun b e2 kb H2 M2 S2 s2 => f b e2 kb H2 M2 S2 (s1.trans s2)⟩
  | true => exact f true e1 k H1 M1 S1 s1
theorem t_and1 (ha : PT X a (LT G ta)) : PW X (.BoolOp .And [a] pos) (LT G ta) := pw_and1 ha
theorem t_or1 (ha : PT X a (LT G ta)) : PW X (.BoolOp .Or [a] pos) (LT G ta) := pw_or1 ha
theorem t_and (ha : PT X a (LT G ta)) (hb : PW X (.BoolOp .And (b :: rest) pos) (LT G tb)) : PW X (.BoolOp .And (a :: b :: rest) pos) (LT G (qAnd ta tb)) := PW.imp (pw_and ha hb) fun _ _ _ => lt_and
theorem t_or (ha : PT X a (LT G ta)) (hb : PW X (.BoolOp .Or (b :: rest) pos) (LT G tb)) : PW X (.BoolOp .Or (a :: b :: rest) pos) (LT G (qOr ta tb)) := PW.imp (pw_or ha hb) fun _ _ _ => lt_or
theorem t_not (ha : PT X a (LT G ta)) : PT X (.UnaryOp .Not a pos) (LT G (qNot ta)) := PT.imp (pt_not ha) fun σ H Q ⟨e, M, K, S, q, f⟩ => ⟨e, M, _, S, q, fun c e1 k H1 M1 S1 s1 => f (!c) e1 k H1 M1 S1 s1⟩
def qAndV (a b : QE) : QE := fun e Q => a e fun r e1 => withP (acc e1 r) fun p => withB p fun c => if c = true then b e1 Q else Q (.sh (.bl false)) e1
def qOrV (a b : QE) : QE := fun e Q => a e fun r e1 => withP (acc e1 r) fun p => withB p fun c => if c = true then Q (.sh (.bl true)) e1 else b e1 Q
def qNotV (a : QE) : QE := fun e Q => a e fun r e1 => withP (acc e1 r) fun p => withB p fun c => Q (.sh (.bl (!c))) e1
theorem v_and (ha : PE X a (LE G qa)) (hb : PE X (.BoolOp .And (b :: rest) pos) (LE G qb)) : PE X (.BoolOp .And (a :: b :: rest) pos) (LE G (qAndV qa qb)) := PE.imp (pe_and ha hb) fun σ H Q ⟨e, M, K, S, q, f⟩ =>
  ⟨e, M, _, S, q, fun r e1 z v H1 M1 S1 s1 R => by
    obtain ⟨p, a1, z⟩ := withP_of z
    obtain ⟨c, rfl, z⟩ := withB_of z
    rw [(Res.acc S1 R a1).bl]
    refine ⟨c, rfl, ?_⟩
    cases c with
    | true => exact ⟨e1, M1, K, S1, z, fun r e2 k => (f r e2 k).from s1⟩
    | false => exact aft_sh S1 ((f _ e1 z).from s1) (.bl false)⟩
theorem v_or (ha : PE X a (LE G qa)) (hb : PE X (.BoolOp .Or (b :: rest) pos) (LE G qb)) : PE X (.BoolOp .Or (a :: b :: rest) pos) (LE G (qOrV qa qb)) := PE.imp (pe_or ha hb) fun σ H Q ⟨e, M, K, S, q, f⟩ =>
  ⟨e, M, _, S, q, fun r e1 z v H1 M1 S1 s1 R => by
    obtain ⟨p, a1, z⟩ := withP_of z
    obtain ⟨c, rfl, z⟩ := withB_of z
    rw [(Res.acc S1 R a1).bl]
    refine ⟨c, rfl, ?_⟩
    cases c with
    | false => exact ⟨e1, M1, K, S1, z, fun r e2 k => (f r e2 k).from s1⟩
    | true => exact aft_sh S1 ((f _ e1 z).from s1) (.bl true)⟩
theorem v_one {op} (ha : PE X a (LE G qa)) : PE X (.BoolOp op [a] pos) (LE G qa) := pe_one ha
theorem v_not (ha : PE X a (LE G qa)) : PE X (.UnaryOp .Not a pos) (LE G (qNotV qa)) := PE.imp (pe_not ha) fun σ H Q ⟨e, M, K, S, q, f⟩ =>
  ⟨e, M, _, S, q, fun r e1 z v H1 M1 S1 s1 R => by
    obtain ⟨p, a1, z⟩ := withP_of z
    obtain ⟨c, rfl, z⟩ := withB_of z
    rw [(Res.acc S1 R a1).bl]
    exact ⟨c, rfl, aft_sh S1 ((f _ e1 z).from s1) (.bl _)⟩⟩
def qIf (t : QT) (a b : QE) : QE := fun e Q => t e fun c e1 => if c = true then a e1 Q else b e1 Q
theorem v_if (hc : PT X c (LT G ta)) (ha : PE X a (LE G qa)) (hb : PE X b (LE G qb)) : PE X (.IfExp c a b pos) (LE G (qIf ta qa qb)) := PE.imp (pe_ifExp hc ha hb) fun σ H Q ⟨e, M, K, S, q, f⟩ =>
  ⟨e, M, _, S, q, fun c e1 k H1 M1 S1 s1 => by
    cases c with
    | true => exact ⟨e1, M1, K, S1, k, fun r e2 k2 => (f r e2 k2).from s1⟩
    | false => exact ⟨e1, M1, K, S1, k, fun r e2 k2 => (f r e2 k2).from s1⟩⟩
theorem atI_rep {H : Hp} {M : Addr → Prop} {vs : List V} {xs : List PV} {i : Int} {x : PV} (r : RepAll G.toEn H M vs xs) (h : atI xs i = some x) : ∃ v, atI vs i = some v ∧ Rep G.toEn H M v x := by
  unfold atI at h ⊢
  rw [← r.length] at h
  cases c : ixN vs.length i with
  | none => rw [c] at h; cases h
  | some j =>
    rw [c] at h
    exact r.get' (i := j) h
def gIx (p q : PV) (k : QV → Prop) : Prop := match p, q with
  | .lst xs, .int i => withP (atI xs i) fun x => k (.sh x)
  | .scr xs, .int i => withP (atI xs i) fun x => k (.sh x)
  | .tup xs, .int i => withP (atI xs i) fun x => k (.sh x)
  | .str z, .int i => z.length ≤ SZ ∧ ∃ c, atI z.cps.toList i = some c ∧ k (.sh (.str ⟨#[c]⟩))
  | _, _ => False
theorem l_ix : Lift2 G (rIx G.K) gIx := fun e M σ H v w p q Q k S a b g f => by
  unfold gIx at g
  split at g
  · rename_i xs i
    obtain ⟨x, hx, kx⟩ := withP_of g
    obtain ⟨a1, vs, rfl, s1, r1⟩ := a.lst
    rw [b.int]
    obtain ⟨u, hu, ru⟩ := atI_rep r1 hx
    exact .inl ⟨a1, vs, i, u, rfl, rfl, s1, hu, aft_sh S (f _ kx) ru⟩
  · rename_i xs i
    obtain ⟨x, hx, kx⟩ := withP_of g
    obtain ⟨a1, vs, rfl, s1, r1⟩ := a.scr
    rw [b.int]
    obtain ⟨u, hu, ru⟩ := atI_rep r1 hx
    exact .inl ⟨a1, vs, i, u, rfl, rfl, s1, hu, aft_sh S (f _ kx) ru⟩
  · rename_i xs i
    obtain ⟨x, hx, kx⟩ := withP_of g
    obtain ⟨a1, vs, rfl, s1, r1⟩ := a.tup
    rw [b.int]
    obtain ⟨u, hu, ru⟩ := atI_rep r1 hx
    exact .inr (.inl ⟨a1, vs, i, u, rfl, rfl, s1, hu, aft_sh S (f _ kx) ru⟩)
  · rename_i z i
    rw [a.str, b.int]
    obtain ⟨h1, c, h2, h3⟩ := g
    exact .inr (.inr ⟨z, i, c, rfl, rfl, sz_fits h1, h2, aft_sh S (f _ h3) (.str _)⟩)
  · exact g.elim
theorem q_ixr {r : R2} {g : PV → PV → (QV → Prop) → Prop} (hr : IxR X r) (l : Lift2 G r g) (ha : PE X a (LE G qa)) (hb : PE X b (LE G qb)) (hs : PlainIx b) : PE X (.Subscript a b pos) (LE G (qOp g qa qb)) :=
  PE.imp (pe_ix hr ha hb hs) fun σ H Q ⟨e, M, K, S, q, f⟩ => two_ok (R := fun x y H2 => r x y H2 Q) S q fun r1 r2 e2 z v w H' M' S' s' R1 R2 =>
    let ⟨p1, a1, z⟩ := withP_of z
    let ⟨p2, a2, gk⟩ := withP_of z
    l e2 M' σ H' v w p1 p2 Q _ S' (Res.acc S' R1 (acc_settle.trans a1)) (Res.acc S' R2 a2) gk fun r k => (f r e2 k).from s'
theorem ix_seqQ (hK : X.K = G.K) : IxR X (rIx G.K) := hK ▸ ix_seq
abbrev QO := PEnv → (Option Int → PEnv → Prop) → Prop
def LO (G : Gh) (q : QO) : TO := fun σ H Q => ∃ e M K, StOk G e M σ H ∧ q e K ∧ ∀ o e', K o e' → ∀ H' M', StOk G e' M' σ H' → Step H M H' M' → Q o H'
def oNone : QO := fun e Q => Q none e
def withI (p : PV) (k : Int → Prop) : Prop := match p with
  | .int i => k i
  | _ => False
theorem withI_of {p : PV} {k : Int → Prop} (h : withI p k) : ∃ i, p = .int i ∧ k i := by
  cases p with
  | int i => exact ⟨i, rfl, h⟩
  | _ => exact h.elim
def oSome (q : QE) : QO := fun e Q => q e fun r e1 => withP (acc e1 r) fun p => withI p fun i => Q (some i) e1
theorem PO.imp {e : Option Expr} {t t' : TO} (h : PO X e t) (f : ∀ σ H Q, t' σ H Q → t σ H Q) : PO X e t' := by
  constructor
  intro pins s σ H Q I q
  exact h.run pins s σ H Q I (f σ H Q q)
theorem o_none : PO X none (LO G oNone) := PO.imp po_none fun σ H Q ⟨e, M, K, S, q, f⟩ => f none e q H M S .refl
theorem o_some (h : PE X a (LE G qa)) : PO X (some a) (LO G (oSome qa)) := PO.imp (po_some h) fun σ H Q ⟨e, M, K, S, q, f⟩ => ⟨e, M, _, S, q, fun r e1 z v H1 M1 S1 s1 R => by
  obtain ⟨p, a1, z⟩ := withP_of z
  obtain ⟨i, rfl, z⟩ := withI_of z
  rw [(Res.acc S1 R a1).int]
  exact ⟨i, rfl, f _ e1 z H1 M1 S1 s1⟩⟩
def cutP (xs : List PV) (lo hi : Option Int) : List PV := (xs.drop (HT.sIx xs.length 0 lo)).take (HT.sIx xs.length xs.length hi - HT.sIx xs.length 0 lo)
theorem cut_rep {H : Hp} {M : Addr → Prop} {vs : List V} {xs : List PV} {lo hi : Option Int} (r : RepAll G.toEn H M vs xs) : RepAll G.toEn H M (cutV vs lo hi) (cutP xs lo hi) := by
  unfold cutV cutP
  rw [r.length]
  exact (r.drop _).take _
def gSl (p : PV) (lo hi : Option Int) (k : QV → Prop) : Prop := match p with
  | .lst xs => k (.fr (.lst (cutP xs lo hi)))
  | .scr xs => k (.fr (.lst (cutP xs lo hi)))
  | .tup xs => ¬ (HT.sIx xs.length 0 lo = 0 ∧ HT.sIx xs.length xs.length hi = xs.length) ∧ k (.sh (.tup (cutP xs lo hi)))
  | .str z => z.length ≤ SZ ∧ k (.sh (.str (cutS z lo hi)))
  | _ => False
def qSl (qa : QE) (ql qh : QO) : QE := fun e Q => qa e fun r e1 => stl r <| ql e1 fun lo e2 => qh e2 fun hi e3 => withP (acc e3 r) fun p => gSl p lo hi fun r => Q r e3
theorem q_sl {lo hi : Option Expr} {p2 : Pos} {ql qh : QO} (g : Good G lv X) (ha : PE X a (LE G qa)) (hl : PO X lo (LO G ql)) (hh : PO X hi (LO G qh)) : PE X (.Subscript a (.Slice lo hi none p2) pos) (LE G (qSl qa ql qh)) := by
  have sl : SlR X (fun x lo hi H Q => rSlL G.K x lo hi H Q ∨ (rSlT G.K x lo hi H Q ∨ rSlS x lo hi H Q)) := g.K ▸ SlR.or sl_list (SlR.or sl_tup sl_str)
  refine PE.imp (pe_slice sl ha hl hh) fun σ H Q ⟨e, M, K, S, q, f⟩ => ?_
  refine ⟨e, M, _, S, q, fun r e1 k1 v H1 M1 S1 s1 R => ?_⟩
  obtain ⟨pb, k1⟩ := stl_of k1
  obtain ⟨M1', S1', s1', R'⟩ := Res.settle S1 R pb
  refine ⟨e1, M1', _, S1', k1, fun lo e2 k2 H2 M2 S2 s2 => ?_⟩
  refine ⟨e2, M2, _, S2, k2, fun hi e3 k3 H3 M3 S3 s3 => ?_⟩
  obtain ⟨p, ap, z⟩ := withP_of k3
  have R3 : Res G e3 M3 σ H3 v (settle r) := Res.later (s2.trans s3) R'
  have A := Res.acc S3 R3 (acc_settle.trans ap)
  have st := ((s1.trans s1').trans s2).trans s3
  unfold gSl at z
  split at z
  · rename_i xs
    obtain ⟨a1, vs, rfl, q1, r1⟩ := A.lst
    refine .inl ⟨a1, vs, rfl, q1, fun p hp => ?_⟩
    obtain ⟨S', st', rs⟩ := S3.newLst hp (cut_rep (lo := lo) (hi := hi) r1)
    exact (f _ e3 z).from st _ _ _ S' st' rs
  · rename_i xs
    obtain ⟨a1, vs, rfl, q1, r1⟩ := A.scr
    refine .inl ⟨a1, vs, rfl, q1, fun p hp => ?_⟩
    obtain ⟨S', st', rs⟩ := S3.newLst hp (cut_rep (lo := lo) (hi := hi) r1)
    exact (f _ e3 z).from st _ _ _ S' st' rs
  · rename_i xs
    obtain ⟨a1, vs, rfl, q1, r1⟩ := A.tup
    refine .inr (.inl ⟨a1, vs, rfl, q1, by rw [r1.length]; exact z.1, fun p hp => ?_⟩)
    obtain ⟨S', st', rs⟩ := S3.newTup hp (cut_rep (lo := lo) (hi := hi) r1)
    exact (f _ e3 z.2).from st _ _ _ S' st' rs
  · rename_i y
    rw [A.str]
    exact .inr (.inr ⟨y, rfl, sz_fits z.1, aft_sh S3 ((f _ e3 z.2).from st) (.str _)⟩)
  · exact z.elim
def aNil : QAs := fun e Q => Q [] e
def aCons (qa : QE) (qr : QAs) : QAs := fun e Q => qa e fun r e1 => keep r e1 fun p e2 => qr e2 fun ps e3 => Q (p :: ps) e3
def bNil : QBs := fun e Q => Q [] e
def bCons (qa : QE) (qr : QBs) : QBs := fun e Q => qa e fun r e1 => stl r <| qr e1 fun rs e2 => Q (settle r :: rs) e2
variable {es : List Expr} {qA : QAs} {qB : QBs}
theorem a_nil : PA X [] (LA G aNil) := PA.imp pa_nil fun σ H Q ⟨e, M, K, S, q, f⟩ => f [] e q [] H M S .refl .nil
theorem a_cons (ha : PE X a (LE G qa)) (hr : PA X es (LA G qA)) (hs : starEach (a :: es) X.env = (false, eval a X.env) :: starEach es X.env := by rfl) : PA X (a :: es) (LA G (aCons qa qA)) :=
  PA.imp (pa_cons ha hr hs) fun σ H Q ⟨e, M, K, S, q, f⟩ => ⟨e, M, _, S, q, fun r e1 k1 v H1 M1 S1 s1 R => by
    obtain ⟨p, e2, M2, k2, S2, s2, R2⟩ := keep_ok S1 R k1
    exact ⟨e2, M2, _, S2, k2, fun ps e3 k3 vs H3 M3 S3 s3 R3 => f _ e3 k3 _ H3 M3 S3 ((s1.trans s2).trans s3) (.cons (R2.step s3) R3)⟩⟩
theorem b_nil : PA X [] (LB G bNil) := PA.imp pa_nil fun σ H Q ⟨e, M, K, S, q, f⟩ => f [] e q [] H M S .refl .nil
theorem b_cons (ha : PE X a (LE G qa)) (hr : PA X es (LB G qB)) (hs : starEach (a :: es) X.env = (false, eval a X.env) :: starEach es X.env := by rfl) : PA X (a :: es) (LB G (bCons qa qB)) :=
  PA.imp (pa_cons ha hr hs) fun σ H Q ⟨e, M, K, S, q, f⟩ => ⟨e, M, _, S, q, fun r e1 k1 v H1 M1 S1 s1 R => by
    obtain ⟨pb, k1⟩ := stl_of k1
    obtain ⟨M2, S2, s2, R2⟩ := Res.settle S1 R pb
    exact ⟨e1, M2, _, S2, k1, fun ps e3 k3 vs H3 M3 S3 s3 R3 => f _ e3 k3 _ H3 M3 S3 ((s1.trans s2).trans s3) (.cons (Res.later s3 R2) R3)⟩⟩
def qTup (q : QAs) : QE := fun e Q => q e fun ps e1 => ps.length ≤ SZ ∧ Q (.sh (.tup ps)) e1
def qLst (q : QAs) : QE := fun e Q => q e fun ps e1 => ps.length ≤ SZ ∧ Q (.fr (.lst ps)) e1
theorem q_tup {x1} (h : PA X es (LA G qA)) : PE X (.Tuple es x1 pos) (LE G (qTup qA)) := PE.imp (pe_tup h) fun σ H Q ⟨e, M, K, S, q, f⟩ => ⟨e, M, _, S, q, fun ps e1 k vs H1 M1 S1 s1 R => ⟨by rw [R.length]; exact sz_fits k.1, fun p hp => by
  obtain ⟨S', st, rs⟩ := S1.newTup hp R
  exact (f _ e1 k.2).from s1 _ _ _ S' st rs⟩⟩
theorem q_lst (h : PA X es (LA G qA)) : PE X (.List es pos) (LE G (qLst qA)) := PE.imp (pe_lst h) fun σ H Q ⟨e, M, K, S, q, f⟩ => ⟨e, M, _, S, q, fun ps e1 k vs H1 M1 S1 s1 R => ⟨by rw [R.length]; exact sz_fits k.1, fun p hp => by
  obtain ⟨S', st, rs⟩ := S1.newLst hp R
  exact (f _ e1 k.2).from s1 _ _ _ S' st rs⟩⟩
inductive AccAll (G : En) (H : Hp) (M : Addr → Prop) : List V → List PV → Prop
  | nil : AccAll G H M [] []
  | cons {v vs p ps} : Acc G H M v p → AccAll G H M vs ps → AccAll G H M (v :: vs) (p :: ps)
def accs (e : PEnv) : List QV → Option (List PV)
  | [] => some []
  | r :: rs => match acc e r, accs e rs with
    | some p, some ps => some (p :: ps)
    | _, _ => none
theorem ResAll.acc {e : PEnv} {M : Addr → Prop} {σ : L2.St} {H : Hp} (S : StOk G e M σ H) : ∀ {vs : List V} {rs : List QV} {ps : List PV}, ResAll G e M σ H vs rs → accs e rs = some ps → AccAll G.toEn H M vs ps
  | _, _, ps, .nil, h => by cases h; exact .nil
  | _, _, ps, .cons (r := r) (rs := rs) h t, hp => by
    unfold accs at hp
    cases c : CP.acc e (settle r) with
    | none => rw [c] at hp; cases hp
    | some p =>
      rw [c] at hp
      cases d : accs e rs with
      | none => rw [d] at hp; cases hp
      | some qs =>
        rw [d] at hp; cases hp
        exact .cons (Res.acc S h c) (ResAll.acc S t d)
def withPs (o : Option (List PV)) (k : List PV → Prop) : Prop := match o with
  | some p => k p
  | none => False
theorem withPs_of {o : Option (List PV)} {k : List PV → Prop} (h : withPs o k) : ∃ p, o = some p ∧ k p := by
  cases o with
  | none => exact h.elim
  | some p => exact ⟨p, rfl, h⟩
def qCB (g : List PV → (QV → Prop) → Prop) (q : QBs) : QE := fun e Q => q e fun rs e1 => withPs (accs e1 rs) fun ps => g ps fun r => Q r e1
def LiftC (G : Gh) (r : List V → Hp → VK → Prop) (g : List PV → (QV → Prop) → Prop) : Prop := ∀ (e : PEnv) (M : Addr → Prop) (σ : L2.St) (H : Hp) (vs : List V) (ps : List PV) (Q : VK) (k : QV → Prop),
  StOk G e M σ H → AccAll G.toEn H M vs ps → g ps k → (∀ r, k r → Aft G σ H M Q r e) → r vs H Q
variable {x : Str} {p : Pos} {id T : String} {r : List V → Hp → VK → Prop} {gg : List PV → (QV → Prop) → Prop}
theorem cb_ok (l : LiftC G r gg) {σ : L2.St} {H : Hp} {Q : VK} (h : LE G (qCB gg qB) σ H Q) : tCB r (LB G qB) σ H Q := by
  obtain ⟨e, M, K, S, q, f⟩ := h
  refine ⟨e, M, _, S, q, fun rs e1 k vs H1 M1 S1 s1 R => ?_⟩
  obtain ⟨ps, a1, z⟩ := withPs_of k
  exact l e1 M1 σ H1 vs ps Q _ S1 (ResAll.acc S1 R a1) z fun r kr => (f r e1 kr).from s1
theorem q_cb (hc : CallR X (.builtin id) r) (l : LiftC G r gg) (hg : Gl X x) (hm : X.mg x = none) (hv : bootBuiltins x = some (.builtin id)) (ha : PA X (a :: es) (LB G qB)) (hn : x ≠ "__name__" := by decide) (hdb : (x == ("__debug__" : Str)) = false := by decide)
    (he : starEach (a :: es) X.env = (false, eval a X.env) :: starEach es X.env := by rfl) (hpl : (backTo pos (starEach es X.env)).any (·.1) = false := by rfl) : PE X (.Call (.Name x p) (a :: es) [] pos) (LE G (qCB gg qB)) :=
  PE.imp (pe_callB hc hg hm hv ha hn hdb he hpl) fun _ _ _ => cb_ok l
theorem q_cty (hc : CallR X (.type T) r) (l : LiftC G r gg) (hg : Gl X x) (hm : X.mg x = none) (hv : bootBuiltins x = some (.type T)) (ha : PA X (a :: es) (LB G qB)) (hn : x ≠ "__name__" := by decide) (hdb : (x == ("__debug__" : Str)) = false := by decide)
    (he : starEach (a :: es) X.env = (false, eval a X.env) :: starEach es X.env := by rfl) (hpl : (backTo pos (starEach es X.env)).any (·.1) = false := by rfl) : PE X (.Call (.Name x p) (a :: es) [] pos) (LE G (qCB gg qB)) :=
  PE.imp (pe_callTy hc hg hm hv ha hn hdb he hpl) fun _ _ _ => cb_ok l
def gLen (ps : List PV) (k : QV → Prop) : Prop := match ps with
  | [.lst xs] => k (.sh (.int xs.length))
  | [.scr xs] => k (.sh (.int xs.length))
  | [.tup xs] => k (.sh (.int xs.length))
  | [.str z] => z.length ≤ SZ ∧ k (.sh (.int z.length))
  | _ => False
theorem acc1 {H : Hp} {M : Addr → Prop} {vs : List V} {p : PV} (h : AccAll G.toEn H M vs [p]) : ∃ v, vs = [v] ∧ Acc G.toEn H M v p := by
  cases h with
  | cons h t => cases t; exact ⟨_, rfl, h⟩
theorem acc2 {H : Hp} {M : Addr → Prop} {vs : List V} {p q : PV} (h : AccAll G.toEn H M vs [p, q]) : ∃ v w, vs = [v, w] ∧ Acc G.toEn H M v p ∧ Acc G.toEn H M w q := by
  cases h with
  | cons h t =>
    obtain ⟨w, rfl, h2⟩ := acc1 t
    exact ⟨_, w, rfl, h, h2⟩
abbrev rLenQ (K : PySem.W.Frag) : List V → Hp → VK → Prop := fun xs H Q => (∃ p ys, xs = [.ref p] ∧ (SqL K H p ys ∨ SqT K H p ys) ∧ Q (.int ys.length) H) ∨ (∃ z, xs = [.str z] ∧ z.length ≤ sizeLine ∧ Q (.int z.length) H)
theorem l_len : LiftC G (rLenQ G.K) gLen := fun e M σ H vs ps Q k S a g f => by
  unfold gLen at g
  split at g
  · obtain ⟨v, rfl, b⟩ := acc1 a
    obtain ⟨a1, us, rfl, s1, r1⟩ := b.lst
    refine .inl ⟨a1, us, rfl, .inl s1, ?_⟩
    rw [r1.length]
    exact aft_sh S (f _ g) (.int _)
  · obtain ⟨v, rfl, b⟩ := acc1 a
    obtain ⟨a1, us, rfl, s1, r1⟩ := b.scr
    refine .inl ⟨a1, us, rfl, .inl s1, ?_⟩
    rw [r1.length]
    exact aft_sh S (f _ g) (.int _)
  · obtain ⟨v, rfl, b⟩ := acc1 a
    obtain ⟨a1, us, rfl, s1, r1⟩ := b.tup
    refine .inl ⟨a1, us, rfl, .inr s1, ?_⟩
    rw [r1.length]
    exact aft_sh S (f _ g) (.int _)
  · obtain ⟨v, rfl, b⟩ := acc1 a
    rw [b.str]
    exact .inr ⟨_, rfl, sz_fits g.1, aft_sh S (f _ g.2) (.int _)⟩
  · exact g.elim
theorem cr_lenQ (hK : X.K = G.K) : CallR X (.builtin "len") (rLenQ G.K) := hK ▸ CallR.or call_len_seq call_len_str
def gList (ps : List PV) (k : QV → Prop) : Prop := match ps with
  | [.lst xs] => k (.fr (.lst xs))
  | [.tup xs] => k (.fr (.lst xs))
  | _ => False
def gTuple (ps : List PV) (k : QV → Prop) : Prop := match ps with
  | [.lst xs] => k (.sh (.tup xs))
  | [.tup xs] => k (.sh (.tup xs))
  | _ => False
abbrev rListQ (K : PySem.W.Frag) : List V → Hp → VK → Prop := fun xs H Q => ∃ p ys, xs = [.ref p] ∧ (SqL K H p ys ∨ SqT K H p ys) ∧ ∀ l, H l = none → Q (.ref l) (L2.upd H l (.lst ys))
abbrev rTupQ (K : PySem.W.Frag) : List V → Hp → VK → Prop := fun xs H Q => ∃ p ys, xs = [.ref p] ∧ ((SqL K H p ys ∧ ∀ l, H l = none → Q (.ref l) (L2.upd H l (.tup ys))) ∨ (SqT K H p ys ∧ Q (.ref p) H))
theorem l_list : LiftC G (rListQ G.K) gList := fun e M σ H vs ps Q k S a g f => by
  unfold gList at g
  split at g
  · obtain ⟨v, rfl, b⟩ := acc1 a
    obtain ⟨a1, us, rfl, s1, r1⟩ := b.lst
    refine ⟨a1, us, rfl, .inl s1, fun l hl => ?_⟩
    obtain ⟨S', st, rs⟩ := S.newLst hl r1
    exact f _ g _ _ _ S' st rs
  · obtain ⟨v, rfl, b⟩ := acc1 a
    obtain ⟨a1, us, rfl, s1, r1⟩ := b.tup
    refine ⟨a1, us, rfl, .inr s1, fun l hl => ?_⟩
    obtain ⟨S', st, rs⟩ := S.newLst hl r1
    exact f _ g _ _ _ S' st rs
  · exact g.elim
theorem l_tuple : LiftC G (rTupQ G.K) gTuple := fun e M σ H vs ps Q k S a g f => by
  unfold gTuple at g
  split at g
  · obtain ⟨v, rfl, b⟩ := acc1 a
    obtain ⟨a1, us, rfl, s1, r1⟩ := b.lst
    refine ⟨a1, us, rfl, .inl ⟨s1, fun l hl => ?_⟩⟩
    obtain ⟨S', st, rs⟩ := S.newTup hl r1
    exact f _ g _ _ _ S' st rs
  · obtain ⟨v, rfl, b⟩ := acc1 a
    have ar := b.tupR
    obtain ⟨a1, us, rfl, s1, r1⟩ := b.tup
    exact ⟨a1, us, rfl, .inr ⟨s1, aft_sh S (f _ g) ar⟩⟩
  · exact g.elim
theorem cr_listQ (hK : X.K = G.K) : CallR X (.type "list") (rListQ G.K) := hK ▸ call_list_of
theorem cr_tupQ (hK : X.K = G.K) : CallR X (.type "tuple") (rTupQ G.K) := hK ▸ call_tuple_of
theorem q_tuple (g : Good G lv X) (hm : X.mg "tuple" = none) (ha : PA X (a :: es) (LB G qB)) (hg : Gl X "tuple" := by rfl) (he : starEach (a :: es) X.env = (false, eval a X.env) :: starEach es X.env := by rfl) (hpl : (backTo pos (starEach es X.env)).any (·.1) = false := by rfl) :
    PE X (.Call (.Name "tuple" p) (a :: es) [] pos) (LE G (qCB gTuple qB)) := q_cty (cr_tupQ g.K) l_tuple hg hm (by decide +kernel) ha (by decide) (by decide) he hpl
def gIntC (ps : List PV) (k : QV → Prop) : Prop := match ps with
  | [.int i] => k (.sh (.int i))
  | [.bl b] => k (.sh (.int (if b then 1 else 0)))
  | _ => False
theorem l_intC : LiftC G (fun xs H Q => (∃ i, xs = [.int i] ∧ Q (.int i) H) ∨ ∃ k, xs = [.bl k] ∧ Q (.int (if k then 1 else 0)) H) gIntC := fun e M σ H vs ps Q k S a g f => by
  unfold gIntC at g
  split at g
  · obtain ⟨v, rfl, b⟩ := acc1 a
    rw [b.int]
    exact .inl ⟨_, rfl, aft_sh S (f _ g) (.int _)⟩
  · obtain ⟨v, rfl, b⟩ := acc1 a
    rw [b.bl]
    exact .inr ⟨_, rfl, aft_sh S (f _ g) (.int _)⟩
  · exact g.elim
theorem q_intC (hm : X.mg "int" = none) (ha : PA X (a :: es) (LB G qB)) (hg : Gl X "int" := by rfl) (he : starEach (a :: es) X.env = (false, eval a X.env) :: starEach es X.env := by rfl) (hpl : (backTo pos (starEach es X.env)).any (·.1) = false := by rfl) :
    PE X (.Call (.Name "int" p) (a :: es) [] pos) (LE G (qCB gIntC qB)) := q_cty call_int1 l_intC hg hm (by decide +kernel) ha (by decide) (by decide) he hpl
end
end CP
namespace CP
open PySem PySem.Spec PyProof.Rows L2
structure PEnds where
  nx : PEnv → Prop
  rt : QV → PEnv → Prop
  bk : PEnv → Prop := fun _ => False
  ct : PEnv → Prop := fun _ => False
  ex : XV → PEnv → Prop := fun _ _ => False
abbrev QS := PEnds → PEnv → Prop
def AftS (G : Gh) (H : Hp) (M : Addr → Prop) (N : L2.St → Hp → Prop) (e : PEnv) : Prop := ∀ σ H' M', StOk G e M' σ H' → Step H M H' M' → N σ H'
def AftR (G : Gh) (H : Hp) (M : Addr → Prop) (N : VK) (r : QV) (e : PEnv) : Prop := ∀ σ v H' M', StOk G e M' σ H' → Step H M H' M' → Res G e M' σ H' v r → N v H'
def AftX (G : Gh) (H : Hp) (M : Addr → Prop) (x : XV) (e : PEnv) : Prop := ∀ σ H' M' cls d, StOk G e M' σ H' → Step H M H' M' → XRep G.toEn H' M' cls d x → G.W cls d σ H'
structure EndsTo (G : Gh) (H : Hp) (M : Addr → Prop) (E : PEnds) (D : Ends) : Prop where
  nx : ∀ e, E.nx e → AftS G H M D.nx e
  rt : ∀ r e, E.rt r e → AftR G H M D.rt r e
  bk : ∀ e, E.bk e → AftS G H M D.bk e
  ct : ∀ e, E.ct e → AftS G H M D.ct e
  ex : ∀ x e, E.ex x e → AftX G H M x e
def LS (G : Gh) (q : QS) : TS := fun D σ H => ∃ e M E, StOk G e M σ H ∧ q E e ∧ EndsTo G H M E D
section
variable {G : Gh} {lv : Nat} {X : Cx} {a b c : Expr} {qa qb : QE} {pos : Pos} {s t : Stmt} {ss ts : List Stmt} {q r : QS}
theorem AftS.from {H H1 : Hp} {M M1 : Addr → Prop} {N : L2.St → Hp → Prop} {e : PEnv} (h : AftS G H M N e) (s : Step H M H1 M1) : AftS G H1 M1 N e := fun σ H' M' S' s' => h σ H' M' S' (s.trans s')
theorem AftR.from {H H1 : Hp} {M M1 : Addr → Prop} {N : VK} {r : QV} {e : PEnv} (h : AftR G H M N r e) (s : Step H M H1 M1) : AftR G H1 M1 N r e := fun σ v H' M' S' s' R => h σ v H' M' S' (s.trans s') R
theorem AftX.from {H H1 : Hp} {M M1 : Addr → Prop} {x : XV} {e : PEnv} (h : AftX G H M x e) (s : Step H M H1 M1) : AftX G H1 M1 x e := fun σ H' M' cls d S' s' => h σ H' M' cls d S' (s.trans s')
theorem EndsTo.from {H H1 : Hp} {M M1 : Addr → Prop} {E : PEnds} {D : Ends} (h : EndsTo G H M E D) (s : Step H M H1 M1) : EndsTo G H1 M1 E D := ⟨fun e k => (h.nx e k).from s, fun r e k => (h.rt r e k).from s, fun e k => (h.bk e k).from s, fun e k => (h.ct e k).from s, fun x e k => (h.ex x e k).from s⟩
def sNil : QS := fun E e => E.nx e
def sSeq (q r : QS) : QS := fun E e => q { E with nx := r E } e
theorem s_nil : PSs X [] (LS G sNil) := PSs.imp pss_nil fun D σ H ⟨e, M, E, S, k, f⟩ => f.nx e k σ H M S .refl
theorem s_cons (h1 : PS X s (LS G q)) (h2 : PSs X ss (LS G r)) : PSs X (s :: ss) (LS G (sSeq q r)) := PSs.imp (pss_cons h1 h2) fun D σ H ⟨e, M, E, S, k, f⟩ =>
  ⟨e, M, _, S, k, ⟨fun e1 k1 σ1 H1 M1 S1 s1 => ⟨e1, M1, E, S1, k1, f.from s1⟩, f.rt, f.bk, f.ct, f.ex⟩⟩
theorem s_one (h : PS X s (LS G q)) : PSs X [s] (LS G q) := pss_one h
def sExpr (q : QE) : QS := fun E e => q e fun _ e1 => E.nx e1
theorem s_expr (ha : PE X a (LE G qa)) (hs : swapsWith a none pos.line X.env = pure false := by rfl) : PS X (.Expr a pos) (LS G (sExpr qa)) := PS.imp (ps_expr ha hs) fun D σ H ⟨e, M, E, S, k, f⟩ =>
  ⟨e, M, _, S, k, fun r e1 k1 v H1 M1 S1 s1 R => by
    exact f.nx e1 k1 σ H1 M1 S1 s1⟩
def sRet (q : QE) : QS := fun E e => q e fun r e1 => E.rt r e1
theorem s_ret (ha : PE X a (LE G qa)) : PS X (.Return (some a) pos) (LS G (sRet qa)) := PS.imp (ps_ret ha) fun D σ H ⟨e, M, E, S, k, f⟩ =>
  ⟨e, M, _, S, k, fun r e1 k1 v H1 M1 S1 s1 R => f.rt r e1 k1 σ v H1 M1 S1 s1 R⟩
def sIf (t : QT) (q r : QS) : QS := fun E e => t e fun b e1 => if b = true then q E e1 else r E e1
theorem s_if {tq : QT} (hc : PT X c (LT G tq)) (h1 : PSs X ss (LS G q)) (h2 : PSs X ts (LS G r)) : PS X (.If c ss ts pos) (LS G (sIf tq q r)) := PS.imp (ps_if hc h1 h2) fun D σ H ⟨e, M, E, S, k, f⟩ =>
  ⟨e, M, _, S, k, fun b e1 k1 H1 M1 S1 s1 => by
    cases b with
    | true => exact ⟨e1, M1, E, S1, k1, f.from s1⟩
    | false => exact ⟨e1, M1, E, S1, k1, f.from s1⟩⟩
def slB : Sl → Bool
  | .io _ => false
  | _ => true
def slF : Option Sl → Bool
  | some s => slB s
  | none => false
def freeS (e : PEnv) (i : Nat) (k : Prop) : Prop := match slF e[i]? with
  | true => k
  | false => False
theorem freeS_of {e : PEnv} {i : Nat} {k : Prop} (h : freeS e i k) : i < e.length ∧ (∀ p, e[i]? ≠ some (Sl.io p)) ∧ k := by
  unfold freeS at h
  split at h
  · rename_i c
    cases d : e[i]? with
    | none => rw [d] at c; cases c
    | some s =>
      rw [d] at c
      refine ⟨get_lt d, fun p z => ?_, h⟩
      cases z
      cases c
  · exact h.elim
theorem mu_set2 {e : PEnv} {i : Nat} {s : Sl} (hi : i < e.length) {j : Nat} (m : Mu (e.set i s) j) (c : j ≠ i) : Mu e j := by
  obtain ⟨q, h⟩ := m
  rw [List.getElem?_set_ne (Ne.symm c)] at h
  exact ⟨q, h⟩
theorem get_set_ne {e : PEnv} {i j : Nat} {s : Sl} (c : j ≠ i) : (e.set i s)[j]? = e[j]? := List.getElem?_set_ne (Ne.symm c)
variable {e : PEnv} {M : Addr → Prop} {σ : L2.St} {H : Hp}
theorem sig_ne {i j : Nat} {v : V} (c : j ≠ i) : (σ.set i (some v))[j]? = σ[j]? := List.getElem?_set_ne (Ne.symm c)
theorem StOk.setVal (S : StOk G e M σ H) {i : Nat} {v : V} {p : PV} (hi : i < e.length) (no : ∀ q, e[i]? ≠ some (Sl.io q)) (r : Rep G.toEn H M v p) : StOk G (e.set i (.val p)) M (σ.set i (some v)) H := by
  have li : i < σ.length := by rw [← S.len]; exact hi
  refine ⟨by rw [List.length_set, List.length_set]; exact S.len, fun j q h => ?_, fun j q h => ?_, fun j q h => ?_, fun j k x mj mk h1 h2 => ?_, fun j x h => ?_, S.m0, S.trk, S.prs, S.tmp⟩
  · by_cases c : j = i
    · subst c
      rw [List.getElem?_set_self hi] at h; cases h
      exact ⟨v, by rw [List.getElem?_set_self li], r⟩
    · rw [get_set_ne c] at h
      obtain ⟨w, q1, q2⟩ := S.val j q h
      exact ⟨w, by rw [sig_ne c]; exact q1, q2⟩
  · have ⟨c, m⟩ := mu_set hi ⟨q, .inl h⟩
    rw [get_set_ne c] at h
    obtain ⟨x, q1, q2⟩ := S.own j q h
    exact ⟨x, by rw [sig_ne c]; exact q1, q2⟩
  · have ⟨c, m⟩ := mu_set hi ⟨q, .inr h⟩
    rw [get_set_ne c] at h
    obtain ⟨x, q0, q1, q2⟩ := S.io j q h
    exact ⟨x, q0, by rw [sig_ne c]; exact q1, q2⟩
  · have ⟨c1, m1⟩ := mu_set hi mj
    have ⟨c2, m2⟩ := mu_set hi mk
    rw [sig_ne c1] at h1
    rw [sig_ne c2] at h2
    exact S.inj j k x m1 m2 h1 h2
  · obtain ⟨q1, q, q2⟩ := S.iol j x h
    have c : j ≠ i := fun c => no q (c ▸ q2)
    exact ⟨by rw [sig_ne c]; exact q1, q, by rw [get_set_ne c]; exact q2⟩
theorem StOk.setOwn (S : StOk G e M σ H) {i : Nat} {a : Addr} {p : PV} (hi : i < e.length) (no : ∀ q, e[i]? ≠ some (Sl.io q)) (o : Obj G.toEn H M a p) (ma : M a) (m0 : ¬ G.M0 a) (h0 : G.H0 a = none) (nj : ∀ j, Mu e j → σ[j]? ≠ some (some (.ref a))) :
    StOk G (e.set i (.own p)) M (σ.set i (some (.ref a))) H := by
  have li : i < σ.length := by rw [← S.len]; exact hi
  refine ⟨by rw [List.length_set, List.length_set]; exact S.len, fun j q h => ?_, fun j q h => ?_, fun j q h => ?_, fun j k x mj mk h1 h2 => ?_, fun j x h => ?_, S.m0, S.trk, S.prs, S.tmp⟩
  · by_cases c : j = i
    · subst c
      rw [List.getElem?_set_self hi] at h; cases h
    · rw [get_set_ne c] at h
      obtain ⟨w, q1, q2⟩ := S.val j q h
      exact ⟨w, by rw [sig_ne c]; exact q1, q2⟩
  · by_cases c : j = i
    · subst c
      rw [List.getElem?_set_self hi] at h; cases h
      exact ⟨a, by rw [List.getElem?_set_self li], o, ma, m0, h0⟩
    · rw [get_set_ne c] at h
      obtain ⟨x, q1, q2⟩ := S.own j q h
      exact ⟨x, by rw [sig_ne c]; exact q1, q2⟩
  · by_cases c : j = i
    · subst c
      rw [List.getElem?_set_self hi] at h; cases h
    · rw [get_set_ne c] at h
      obtain ⟨x, q0, q1, q2⟩ := S.io j q h
      exact ⟨x, q0, by rw [sig_ne c]; exact q1, q2⟩
  · by_cases c1 : j = i
    · by_cases c2 : k = i
      · rw [c1, c2]
      · subst c1
        rw [List.getElem?_set_self li] at h1; cases h1
        rw [sig_ne c2] at h2
        exact absurd h2 (nj k (mu_set2 hi mk c2))
    · by_cases c2 : k = i
      · subst c2
        rw [List.getElem?_set_self li] at h2; cases h2
        rw [sig_ne c1] at h1
        exact absurd h1 (nj j (mu_set2 hi mj c1))
      · rw [sig_ne c1] at h1
        rw [sig_ne c2] at h2
        exact S.inj j k x (mu_set2 hi mj c1) (mu_set2 hi mk c2) h1 h2
  · obtain ⟨q1, q, q2⟩ := S.iol j x h
    have c : j ≠ i := fun c => no q (c ▸ q2)
    exact ⟨by rw [sig_ne c]; exact q1, q, by rw [get_set_ne c]; exact q2⟩
def storeS (i : Nat) (r : QV) (e : PEnv) (k : PEnv → Prop) : Prop := match r with
  | .fr p => freeS e i (k (e.set i (.own p)))
  | r => keep r e fun p e1 => freeS e1 i (k (e1.set i (.val p)))
def sSet (i : Nat) (q : QE) : QS := fun E e => q e fun r e1 => storeS i r e1 E.nx
theorem store_fin {v : V} {r : QV} {i : Nat} {k : PEnv → Prop} (S : StOk G e M σ H) (R : Res G e M σ H v r) (h : storeS i r e k) : ∃ e' M', k e' ∧ StOk G e' M' (σ.set i (some v)) H ∧ Step H M H M' := by
  have kp : keep r e (fun p e1 => freeS e1 i (k (e1.set i (.val p)))) → ∃ e' M', k e' ∧ StOk G e' M' (σ.set i (some v)) H ∧ Step H M H M' := fun h => by
    obtain ⟨p, e1, M1, k1, S1, s1, R1⟩ := keep_ok S R h
    obtain ⟨hi, no, k2⟩ := freeS_of k1
    exact ⟨_, M1, k2, S1.setVal hi no R1, s1⟩
  cases r with
  | sh p => exact kp h
  | bor j => exact kp h
  | fr p =>
    obtain ⟨hi, no, k2⟩ := freeS_of h
    obtain ⟨a, rfl, o, ma, m0, h0, nj⟩ := R
    exact ⟨_, M, k2, S.setOwn hi no o ma m0 h0 nj, .refl⟩
theorem s_set {i : Nat} {x : Str} {pos' : Pos} (g : Good G lv X) (ha : PE X a (LE G qa)) (hi : X.N[i]? = some x := by rfl) (hx : Loc X.env.scope x := by first | exact Or.inl rfl | exact Or.inr rfl) (hs : swapsWith a (some (.Name x pos')) pos.line X.env = pure false := by rfl) (hf : X.fn x = true ∨ X.env.scope.names.lookup x = some .local := by first | exact .inl rfl | exact .inr rfl | assumption) :
    PS X (.Assign [.Name x pos'] a pos) (LS G (sSet i qa)) := PS.imp (ps_set g.nd hi hx ha hs hf) fun D σ H ⟨e, M, E, S, k, f⟩ =>
  ⟨e, M, _, S, k, fun r e1 k1 v H1 M1 S1 s1 R => by
    obtain ⟨e2, M2, k2, S2, s2⟩ := store_fin S1 R k1
    exact f.nx e2 k2 _ H1 M2 S2 (s1.trans s2)⟩
abbrev QG := PV → PEnv → (PEnv → Prop) → Prop
def LG (G : Gh) (vs : List Nat) (q : QG) : TG := fun v σ H Q => ∃ e M p K, StOk G e M σ H ∧ Rep G.toEn H M v p ∧ q p e K ∧ ∀ e', K e' → ∀ σ' H' M', StOk G e' M' σ' H' → Step H M H' M' → wipe σ' vs = wipe σ vs → Q σ' H'
abbrev QGs := List PV → PEnv → (PEnv → Prop) → Prop
def LGs (G : Gh) (vs : List Nat) (q : QGs) : TGs := fun us σ H Q => ∃ e M ps K, StOk G e M σ H ∧ RepAll G.toEn H M us ps ∧ q ps e K ∧ ∀ e', K e' → ∀ σ' H' M', StOk G e' M' σ' H' → Step H M H' M' → wipe σ' vs = wipe σ vs → Q σ' H'
theorem PG.imp {t t' : TG} (h : PG X a t) (f : ∀ v σ H Q, t' v σ H Q → t v σ H Q) : PG X a t' := ⟨fun pins s σ H v u Q I r q => h.run pins s σ H v u Q I r (f v σ H Q q)⟩
theorem PGs.imp {es : List Expr} {t t' : TGs} (h : PGs X es t) (f : ∀ v σ H Q, t' v σ H Q → t v σ H Q) : PGs X es t' := ⟨fun pins s σ H v u Q I r q => h.run pins s σ H v u Q I r (f v σ H Q q)⟩
theorem wipe_set : ∀ {vs : List Nat} {σ : L2.St} {i : Nat} {x : Option V}, i ∈ vs → wipe (σ.set i x) vs = wipe σ vs := by
  intro vs σ i x h
  refine List.ext_getElem? fun j => ?_
  have key : ∀ (ws : List Nat) (τ : L2.St) (j : Nat), (wipe τ ws)[j]? = if j ∈ ws then (if j < τ.length then some none else none) else τ[j]? := by
    intro ws τ
    induction ws with
    | nil => intro j; simp [wipe]
    | cons w ws ih =>
      intro j
      unfold wipe
      by_cases c : j = w
      · subst c
        by_cases l : j < τ.length
        · rw [List.getElem?_set_self (by rw [wipe_length]; exact l)]; simp [l]
        · have : ((wipe τ ws).set j none)[j]? = none := List.getElem?_eq_none_iff.mpr (by rw [List.length_set, wipe_length]; omega)
          rw [this]; simp [l]
      · rw [List.getElem?_set_ne (Ne.symm c), ih]; simp [c]
  rw [key, key]
  by_cases c : j ∈ vs
  · simp [c, List.length_set]
  · have : j ≠ i := fun z => c (z ▸ h)
    simp [c, List.getElem?_set_ne (Ne.symm this)]
def gqName (i : Nat) : QG := fun p e k => freeS e i (k (e.set i (.val p)))
def gqNil : QGs := fun ps e k => match ps with
  | [] => k e
  | _ => False
def gqCons (a : QG) (b : QGs) : QGs := fun ps e k => match ps with
  | p :: r => a p e fun e1 => b r e1 k
  | [] => False
def gqTup (n : Nat) (b : QGs) : QG := fun p e k => match p with
  | .tup ps => match Nat.beq ps.length n with
    | true => b ps e k
    | false => False
  | .lst ps => match Nat.beq ps.length n with
    | true => b ps e k
    | false => False
  | _ => False
theorem g_name {i : Nat} {x : Str} {vs : List Nat} (hN : X.N.Nodup) (hi : X.N[i]? = some x := by rfl) (hx : Loc X.env.scope x := by first | exact Or.inl rfl | exact Or.inr rfl) (hv : i ∈ vs := by decide) (hf : X.fn x = true ∨ X.env.scope.names.lookup x = some .local := by first | exact .inl rfl | exact .inr rfl | assumption) : PG X (.Name x pos) (LG G vs (gqName i)) :=
  PG.imp (pg_name hN hi hx hf) fun v σ H Q ⟨e, M, p, K, S, R, k, f⟩ => by
    obtain ⟨li, no, k2⟩ := freeS_of k
    exact f _ k2 _ H M (S.setVal li no R) .refl (wipe_set hv)
variable {es : List Expr} {vs : List Nat} {ga : QG} {gb : QGs}
theorem g_nil : PGs X [] (LGs G vs gqNil) := PGs.imp pgs_nil fun v σ H Q ⟨e, M, ps, K, S, R, k, f⟩ => by
  unfold gqNil at k
  split at k
  · cases R
    exact ⟨rfl, f e k σ H M S .refl rfl⟩
  · exact k.elim
theorem g_cons (h1 : PG X a (LG G vs ga)) (h2 : PGs X es (LGs G vs gb)) (hs : (assignEach (a :: es) X.env).map (·.2) = assign a X.env :: (assignEach es X.env).map (·.2) := by rfl) : PGs X (a :: es) (LGs G vs (gqCons ga gb)) := PGs.imp (pgs_cons h1 h2 hs) fun v σ H Q ⟨e, M, ps, K, S, R, k, f⟩ => by
  cases R with
  | nil => exact k.elim
  | cons r rr => exact ⟨_, _, rfl, e, M, _, _, S, r, k, fun e1 k1 σ1 H1 M1 S1 s1 w1 => ⟨e1, M1, _, K, S1, rr.step s1, k1, fun e2 k2 σ2 H2 M2 S2 s2 w2 => f e2 k2 σ2 H2 M2 S2 (s1.trans s2) (w2.trans w1)⟩⟩
theorem PG.or {tg : Expr} {t1 t2 : TG} (h1 : PG X tg t1) (h2 : PG X tg t2) : PG X tg (fun v σ H Q => t1 v σ H Q ∨ t2 v σ H Q) := ⟨fun pins s σ H v u Q I r q => q.elim (h1.run pins s σ H v u Q I r) (h2.run pins s σ H v u Q I r)⟩
theorem g_tup {k : Nat} {n : Nat} (g : Good G lv X) (h : PGs X es (LGs G vs gb)) (hn : (assignEach es X.env).length = n := by rfl) (hst : (assignEach es X.env).findIdx? (·.1) = none := by rfl) : PG X (.Tuple es k pos) (LG G vs (gqTup n gb)) :=
  PG.imp (PG.or (pg_tup g.calm h hn hst) (pg_lst g.calm h hn hst)) fun v σ H Q ⟨e, M, p, K, S, R, k, f⟩ => by
    unfold gqTup at k
    split at k
    · split at k
      · rename_i c
        cases R with
        | tup st rr => exact .inl ⟨_, _, rfl, g.K ▸ st.sq, by rw [rr.length]; exact Nat.eq_of_beq_eq_true c, e, M, _, K, S, rr, k, f⟩
      · exact k.elim
    · split at k
      · rename_i c
        cases R with
        | lst st rr => exact .inr ⟨_, _, rfl, g.K ▸ st.sq, by rw [rr.length]; exact Nat.eq_of_beq_eq_true c, e, M, _, K, S, rr, k, f⟩
      · exact k.elim
    · exact k.elim
def sAsg (q : QE) (g : QG) : QS := fun E e => q e fun r e1 => keep r e1 fun p e2 => g p e2 E.nx
theorem s_asg {tg : Expr} (ha : PE X a (LE G qa)) (hg : PG X tg (LG G vs ga)) (hs : swapsWithSole [tg] a pos.line X.env = pure false := by rfl) (hw : swappedStores [tg] a X.env = pure none := by rfl) (h1 : (assignEach [tg] X.env).map (·.2) = [assign tg X.env] := by rfl) : PS X (.Assign [tg] a pos) (LS G (sAsg qa ga)) :=
  PS.imp (ps_asg ha hg hs hw h1) fun D σ H ⟨e, M, E, S, k, f⟩ => ⟨e, M, _, S, k, fun r e1 k1 v H1 M1 S1 s1 R => by
    obtain ⟨p, e2, M2, k2, S2, s2, R2⟩ := keep_ok S1 R k1
    exact ⟨e2, M2, p, _, S2, R2, k2, fun e3 k3 σ3 H3 M3 S3 s3 _ => f.nx e3 k3 σ3 H3 M3 S3 ((s1.trans s2).trans s3)⟩⟩
abbrev QI := PEnv → (List PV → PEnv → Prop) → Prop
def Grow1 (H H' : Hp) : Prop := H' = H ∨ ∃ T o, H T = none ∧ H' = L2.upd H T o
theorem StOk.grow1 (S : StOk G e M σ H) {H' : Hp} (g : Grow1 H H') : StOk G e M σ H' := by
  rcases g with rfl | ⟨T, o, hT, rfl⟩
  · exact S
  · exact S.new hT
theorem step_grow1 {H' : Hp} (g : Grow1 H H') : Step H M H' M := by
  rcases g with rfl | ⟨T, o, hT, rfl⟩
  · exact .refl
  · exact step_new hT
def Walks (G : Gh) (J : It) (items : List PV) (H : Hp) (M : Addr → Prop) : Prop := ∀ H2 M2, Step H M H2 M2 → (∀ a, M2 a → H2 a ≠ none) → (∀ (i : Nat) p, items[i]? = some p → J.go i H2 ∧ ∀ x H3, J.yld i H2 x H3 → Grow1 H2 H3 ∧ Rep G.toEn H3 M2 x p) ∧ J.stop items.length H2
def LI (G : Gh) (q : QI) : TI := fun σ H R => ∃ e M K, StOk G e M σ H ∧ q e K ∧ ∀ items e', K items e' → items.length ≤ sizeLine → ∀ J H' M', StOk G e' M' σ H' → Step H M H' M' → Walks G J items H' M' → R J H'
def runF (g : QG) (b : QS) (E : PEnds) : List PV → PEnv → Prop
  | [], e => E.nx e
  | p :: ps, e => g p e fun e1 => b { E with nx := runF g b E ps, ct := runF g b E ps, bk := E.nx } e1
def sFor (i : QI) (g : QG) (b : QS) : QS := fun E e => i e fun items e1 => runF g b E items e1
theorem s_for {tg iter : Expr} {body : List Stmt} {qi : QI} (hp : PassesOwn (model X.prog X.w) X.A X.env X.xe) (g : Good G lv X) (hi : PI X tg iter (LI G qi)) (hg : PG X tg (LG G vs ga)) (hb : PSs X body (LS G q)) (hs : ∀ x, foldedSetIterable iter X.env x = pure x := by intro _; rfl) :
    PS X (.For tg iter body [] pos) (LS G (sFor qi ga q)) := PS.imp (ps_for hp g.calm hi hg hb hs) fun D σ H ⟨e, M, E, S, k, f⟩ => by
  refine ⟨e, M, _, S, k, fun items e1 k1 _ J H1 M1 S1 s1 W => ?_⟩
  refine ⟨fun i m σ' H' => m = items.length - i ∧ i ≤ items.length ∧ ∃ e' M', StOk G e' M' σ' H' ∧ Step H1 M1 H' M' ∧ runF ga q E (items.drop i) e', ⟨_, rfl, Nat.zero_le _, e1, M1, S1, .refl, k1⟩, ?_⟩
  rintro i m σ2 H2 ⟨rfl, hi, e2, M2, S2, s2, k2⟩
  obtain ⟨wg, ws⟩ := W H2 M2 s2 S2.trk
  by_cases c : i < items.length
  · have hp : items[i]? = some items[i] := List.getElem?_eq_getElem c
    obtain ⟨go, yl⟩ := wg i _ hp
    rw [List.drop_eq_getElem_cons c] at k2
    refine .inr ⟨go, fun σ' H' => ∃ e' M', StOk G e' M' σ' H' ∧ Step H1 M1 H' M' ∧ runF ga q E (items.drop (i + 1)) e', fun σ' H' h => ⟨items.length - (i + 1), by omega, rfl, c, h⟩, fun x H3 y => ?_⟩
    obtain ⟨y1, y3⟩ := yl x H3 y
    have y2 : Step H2 M2 H3 M2 := step_grow1 y1
    refine ⟨e2, M2, _, _, S2.grow1 y1, y3, k2, fun e4 k4 σ4 H4 M4 S4 s4 _ => ?_⟩
    have st := (s2.trans y2).trans s4
    refine ⟨e4, M4, _, S4, k4, ⟨fun e5 k5 σ5 H5 M5 S5 s5 => ⟨e5, M5, S5, st.trans s5, k5⟩, fun r e5 k5 => (f.rt r e5 k5).from (s1.trans st), fun e5 k5 => (f.nx e5 k5).from (s1.trans st), fun e5 k5 σ5 H5 M5 S5 s5 => ⟨e5, M5, S5, st.trans s5, k5⟩, fun x5 e5 k5 => (f.ex x5 e5 k5).from (s1.trans st)⟩⟩
  · have ei : i = items.length := by omega
    subst ei
    rw [List.drop_length] at k2
    exact .inl ⟨ws, f.nx e2 k2 σ2 H2 M2 S2 (s1.trans s2)⟩
def sWhile (t : QT) (b : QS) : QS := fun E e => ∃ (I : PEnv → Prop) (μ : PEnv → Nat), I e ∧ ∀ e, I e → t e fun c e1 => if c = true then b { E with nx := fun e' => I e' ∧ μ e' < μ e, ct := fun e' => I e' ∧ μ e' < μ e, bk := E.nx } e1 else E.nx e1
theorem s_while {body : List Stmt} {tq : QT} (hp : PassesOwn (model X.prog X.w) X.A X.env X.xe) (hc : PT X c (LT G tq)) (hb : PSs X body (LS G q)) : PS X (.While c body [] pos) (LS G (sWhile tq q)) := PS.imp (ps_while hp hc hb) fun D σ H ⟨e, M, E, S, ⟨I, μ, i0, turn⟩, f⟩ => by
  refine ⟨fun m σ' H' => ∃ e' M', StOk G e' M' σ' H' ∧ Step H M H' M' ∧ I e' ∧ μ e' = m, ⟨_, e, M, S, .refl, i0, rfl⟩, ?_⟩
  rintro m σ1 H1 ⟨e1, M1, S1, s1, i1, rfl⟩
  refine ⟨e1, M1, _, S1, turn e1 i1, fun c e2 k2 H2 M2 S2 s2 => ?_⟩
  cases c with
  | true =>
    refine ⟨fun σ' H' => ∃ e' M', StOk G e' M' σ' H' ∧ Step H M H' M' ∧ I e' ∧ μ e' < μ e1, fun σ' H' ⟨e', M', S', s', i', l'⟩ => ⟨_, l', e', M', S', s', i', rfl⟩, ?_⟩
    have st := s1.trans s2
    exact ⟨e2, M2, _, S2, k2, ⟨fun e5 k5 σ5 H5 M5 S5 s5 => ⟨e5, M5, S5, st.trans s5, k5⟩, fun r e5 k5 => (f.rt r e5 k5).from st, fun e5 k5 => (f.nx e5 k5).from st, fun e5 k5 σ5 H5 M5 S5 s5 => ⟨e5, M5, S5, st.trans s5, k5⟩, fun x5 e5 k5 => (f.ex x5 e5 k5).from st⟩⟩
  | false => exact f.nx e2 k2 σ1 H2 M2 S2 (s1.trans s2)
end
end CP
namespace CP
open PySem PySem.Spec PyProof.Rows L2
section
variable {G : Gh} {lv : Nat} {X : Cx} {a b c : Expr} {qa qb : QE} {pos : Pos} {tg : Expr}
theorem walks_at {J : It} {vs : List V} {P : Hp → Prop} {items : List PV} {H : Hp} {M : Addr → Prop} (W : Walk J vs.length P (YAt vs)) (hP : ∀ H2 M2, Step H M H2 M2 → P H2) (r : RepAll G.toEn H M vs items) : Walks G J items H M := fun H2 M2 s _ => by
  refine ⟨fun i p hp => ?_, by rw [← r.length]; exact W.stops H2 (hP H2 M2 s)⟩
  obtain ⟨v, hv, rv⟩ := r.get' hp
  have li := (List.getElem?_eq_some_iff.mp hv).1
  refine ⟨W.goes i H2 li (hP H2 M2 s), fun x H3 y => ?_⟩
  obtain ⟨rfl, hx⟩ := W.yields i H2 x H3 li (hP H2 M2 s) y
  rw [hv] at hx; cases hx
  exact ⟨.inl rfl, rv.step s⟩
theorem walks_pair {J : It} {n : Nat} {P : Hp → Prop} {xs ys : Nat → Option V} {items : List PV} {H : Hp} {M : Addr → Prop} (W : Walk J n P (YPair xs ys)) (hP : ∀ H2 M2, Step H M H2 M2 → P H2) (hn : items.length = n)
    (r : ∀ (i : Nat) t, items[i]? = some t → ∃ p q, t = .tup [p, q] ∧ ∀ x y, xs i = some x → ys i = some y → Rep G.toEn H M x p ∧ Rep G.toEn H M y q) : Walks G J items H M := fun H2 M2 s tr => by
  refine ⟨fun i t ht => ?_, by rw [hn]; exact W.stops H2 (hP H2 M2 s)⟩
  have li : i < n := by rw [← hn]; exact (List.getElem?_eq_some_iff.mp ht).1
  refine ⟨W.goes i H2 li (hP H2 M2 s), fun v H3 y => ?_⟩
  obtain ⟨T, x, z, rfl, hT, rfl, hx, hz⟩ := W.yields i H2 v H3 li (hP H2 M2 s) y
  obtain ⟨p, q, rfl, rr⟩ := r i t ht
  obtain ⟨r1, r2⟩ := rr x z hx hz
  refine ⟨.inr ⟨T, _, hT, rfl⟩, ?_⟩
  have st : Step H2 M2 (L2.upd H2 T (.tup [x, z])) M2 := step_new hT
  exact .tup ⟨.inl upd_same, fun m => tr T m hT⟩ (.cons ((r1.step s).step st) (.cons ((r2.step s).step st) .nil))
end
section
variable {X : Cx} {tg l : Expr} {tl : TE}
def iEnumW (K : PySem.W.Frag) (ta : TA) : TI := fun σ H R => ta σ H fun vs H1 => ∃ a xs, vs = [.ref a] ∧ ((SqL K H1 a xs ∧ (xs.length ≤ sizeLine → R (Ite K a) H1)) ∨ (SqT K H1 a xs ∧ (xs.length ≤ sizeLine → R (ItT K a) H1)))
theorem pi_enumW {e : Expr} {ta : TA} {p pos tpos : Pos} {elts : List Expr} {kk : Nat} (hg : Gl X "enumerate") (hm : X.mg "enumerate" = none) (ha : PA X [e] ta) (hs : starEach [e] X.env = [(false, eval e X.env)] := by rfl) :
    PI X (.Tuple elts kk tpos) (.Call (.Name "enumerate" p) [e] [] pos) (iEnumW X.K ta) := by
  refine ⟨fun pins s σ H R I h => ?_⟩
  refine Call_ (ld_blt I hg hm boot_enumerate (PyProof.Rows.callWith_type1 (thn (ha.run pos pins s σ H _ I h) fun us s1 ⟨vs, H1, I1, r1, a, xs, ex, q⟩ => ?_) hs rfl))
  subst ex
  rw [Vals.ref1 r1]
  have fin : ∀ b ∈ [s1.heap.objs.size + 1, s1.heap.objs.size], FpOk X pins H1 b := fun b hb => by
    have hle : s1.heap.objs.size ≤ b := by
      rcases (show b = s1.heap.objs.size + 1 ∨ b = s1.heap.objs.size by simpa using hb) with z | z
      · rw [z]; exact Nat.le_add_right _ _
      · rw [z]; exact Nat.le_refl _
    exact I1.fpOk hle (I1.hok.fresh hle)
  rcases q with ⟨hq, q⟩ | ⟨hq, q⟩
  · obtain ⟨its, rv, p', hz⟩ := I1.list hq
    refine call_enumerate_list p'.isList fun h' he hit hsz hk => wpAny_pyIter_enum he ?_
    have I2 : L2.Inv X pins σ H1 { s1 with heap := h' } := I1.kept (t' := s1.toks) hk
    exact ⟨s1.heap.objs.size + 1, [s1.heap.objs.size + 1, s1.heap.objs.size], _, _, H1, rfl, I2, turn_enum a (s1.heap.objs.size + 1) s1.heap.objs.size, ⟨⟨.none, he⟩, hit, Nat.succ_ne_self _⟩, fin, q hz⟩
  · obtain ⟨its, rv, p', hz⟩ := I1.tuple hq
    refine call_enumT (items := its.toArray) p' fun h' he hit hk => wpAny_pyIter_enum he ?_
    have I2 : L2.Inv X pins σ H1 { s1 with heap := h' } := I1.kept (t' := s1.toks) hk
    exact ⟨s1.heap.objs.size + 1, [s1.heap.objs.size + 1, s1.heap.objs.size], _, _, H1, rfl, I2, turn_enumT a (s1.heap.objs.size + 1) s1.heap.objs.size, ⟨⟨.none, he⟩, hit, Nat.succ_ne_self _⟩, fin, q hz⟩
def iZipW (K : PySem.W.Frag) (ta : TA) : TI := fun σ H R => ta σ H fun vs H1 => ∃ a b xs ys, vs = [.ref a, .ref b] ∧ SqL K H1 a xs ∧ SqL K H1 b ys ∧ (xs.length ≤ sizeLine → R (Itz K a b) H1)
theorem pi_zipW {e e2 : Expr} {ta : TA} {p pos tpos : Pos} {elts : List Expr} {kk : Nat} (hg : Gl X "zip") (hm : X.mg "zip" = none) (ha : PA X [e, e2] ta)
    (hs : starEach [e, e2] X.env = (false, eval e X.env) :: starEach [e2] X.env := by rfl) (hpl : (backTo pos (starEach [e2] X.env)).any (·.1) = false := by rfl) :
    PI X (.Tuple elts kk tpos) (.Call (.Name "zip" p) [e, e2] [] pos) (iZipW X.K ta) := by
  refine ⟨fun pins s σ H R I h => ?_⟩
  refine Call_ (ld_blt I hg hm PyProof.Rows.boot_zip (PyProof.Rows.callWith_type1 (thn (ha.run pos pins s σ H _ I h) fun us s1 ⟨vs, H1, I1, r1, q1⟩ => ?_) hs hpl))
  obtain ⟨a, b, xs, ys, ex, hqx, hqy, q⟩ := q1
  subst ex
  cases r1 with
  | cons r rr =>
    cases rr with
    | cons r' rr =>
      cases rr
      cases r
      cases r'
      obtain ⟨its, rv, p1, hz1⟩ := I1.list hqx
      obtain ⟨its2, rv2, p2, _⟩ := I1.list hqy
      have la : a < s1.heap.objs.size := p1.lt
      have lb : b < s1.heap.objs.size := p2.lt
      refine call_zip_2 p1.isList p2.isList fun h' hz hTI hTO h1 h2 hsz hk => wpAny_pyIter_zip hz ?_
      have I2 : L2.Inv X pins σ H1 { s1 with heap := h' } := I1.kept (t' := s1.toks) hk
      refine ⟨s1.heap.objs.size + 4, [s1.heap.objs.size + 4, s1.heap.objs.size + 2, s1.heap.objs.size + 3, s1.heap.objs.size, s1.heap.objs.size + 1], _, _, H1, rfl, I2, turn_zip (PySem.W.ktu_apart s1.heap.objs.size a b la lb), ⟨hz, hTI, ⟨_, _, hTO⟩, h1, h2⟩, fun c hcm => ?_, q hz1⟩
      have e' : c = s1.heap.objs.size + 4 ∨ c = s1.heap.objs.size + 2 ∨ c = s1.heap.objs.size + 3 ∨ c = s1.heap.objs.size ∨ c = s1.heap.objs.size + 1 := by simpa using hcm
      have hle : s1.heap.objs.size ≤ c := by
        rcases e' with z | z | z | z | z
        · rw [z]; exact Nat.le_add_right _ _
        · rw [z]; exact Nat.le_add_right _ _
        · rw [z]; exact Nat.le_add_right _ _
        · rw [z]; exact Nat.le_refl _
        · rw [z]; exact Nat.le_add_right _ _
      exact I1.fpOk hle (I1.hok.fresh hle)
theorem PI.imp {t t' : TI} (h : PI X tg l t) (f : ∀ σ H R, t' σ H R → t σ H R) : PI X tg l t' := ⟨fun pins s σ H R I q => h.run pins s σ H R I (f σ H R q)⟩
end
section
variable {G : Gh} {lv : Nat} {X : Cx} {a b c : Expr} {qa qb : QE} {pos p tpos : Pos} {tg : Expr} {elts : List Expr} {kk : Nat}
def signs (z : Str) : List PV := z.cps.toList.map fun c => .str ⟨#[c]⟩
theorem walks_str {z : Str} {H : Hp} {M : Addr → Prop} : Walks G (Its z) (signs z) H M := fun H2 M2 s _ => by
  refine ⟨fun i p hp => ?_, ?_⟩
  · unfold signs at hp
    rw [List.getElem?_map] at hp
    cases c : z.cps.toList[i]? with
    | none => rw [c] at hp; cases hp
    | some w =>
      rw [c] at hp; cases hp
      have c' : z.cps[i]? = some w := by rw [← Array.getElem?_toList]; exact c
      have li := (Array.getElem?_eq_some_iff.mp c').1
      refine ⟨li, fun x H3 y => ?_⟩
      obtain ⟨rfl, w', hw, rfl⟩ := y
      rw [c'] at hw; cases hw
      exact ⟨.inl rfl, .str _⟩
  · show z.cps.size ≤ (signs z).length
    unfold signs; rw [List.length_map, Array.length_toList]; exact Nat.le_refl _
def itemsOf (p : PV) (k : List PV → Prop) : Prop := match p with
  | .lst xs => k xs
  | .tup xs => k xs
  | .str z => z.length ≤ SZ ∧ k (signs z)
  | _ => False
def numbered (xs : List PV) : List PV := (List.range xs.length).zipWith (fun i x => .tup [.int (i : Nat), x]) xs
theorem numbered_get (xs : List PV) (i : Nat) : (numbered xs)[i]? = (xs[i]?).map fun x => .tup [.int (i : Nat), x] := by
  unfold numbered
  rw [List.getElem?_zipWith]
  by_cases c : i < xs.length
  · rw [List.getElem?_range c, List.getElem?_eq_getElem c]; rfl
  · rw [List.getElem?_eq_none_iff.mpr (show (List.range xs.length).length ≤ i by rw [List.length_range]; omega), List.getElem?_eq_none_iff.mpr (show xs.length ≤ i by omega)]; rfl
theorem numbered_len (xs : List PV) : (numbered xs).length = xs.length := by unfold numbered; simp
def rowOf (p : PV) (k : List PV → Prop) : Prop := match p with
  | .lst xs => k xs
  | .tup xs => k xs
  | _ => False
def iqEnum (q : QAs) : QI := fun e K => q e fun ps e1 => match ps with
  | [p] => rowOf p fun xs => K (numbered xs) e1
  | _ => False
theorem enum_rep {H : Hp} {M : Addr → Prop} {vs : List V} {xs : List PV} (rr : RepAll G.toEn H M vs xs) (i : Nat) (t : PV) (ht : (numbered xs)[i]? = some t) : ∃ p q, t = .tup [p, q] ∧ ∀ x y, (some (V.int (i : Nat))) = some x → vs[i]? = some y → Rep G.toEn H M x p ∧ Rep G.toEn H M y q := by
  rw [numbered_get] at ht
  cases c : xs[i]? with
  | none => rw [c] at ht; cases ht
  | some z =>
    rw [c] at ht; cases ht
    refine ⟨_, _, rfl, fun x y hx hy => ?_⟩
    cases hx
    obtain ⟨w, hw, rw'⟩ := rr.get hy
    rw [c] at hw; cases hw
    exact ⟨.int _, rw'⟩
theorem i_enum {qA : QAs} (g : Good G lv X) (hm : X.mg "enumerate" = none) (ha : PA X [a] (LA G qA)) (hg : Gl X "enumerate" := by rfl) (hs : starEach [a] X.env = [(false, eval a X.env)] := by rfl) : PI X (.Tuple elts kk tpos) (.Call (.Name "enumerate" p) [a] [] pos) (LI G (iqEnum qA)) :=
  PI.imp (pi_enumW hg hm ha hs) fun σ H R ⟨e, M, K, S, q, f⟩ => ⟨e, M, _, S, q, fun ps e1 k1 vs H1 M1 S1 s1 R1 => by
    rw [g.K]
    split at k1
    · rename_i p
      cases R1 with
      | cons r0 rt =>
        cases rt
        unfold rowOf at k1
        split at k1
        · cases r0 with
          | lst sl rr => exact ⟨_, _, rfl, .inl ⟨sl.sq, fun hl => f _ e1 k1 (by rw [numbered_len, ← rr.length]; exact hl) _ H1 M1 S1 s1 (walks_pair walk_enum (fun H3 M3 s3 => (s3.stayL sl).sq) (by rw [numbered_len, rr.length]) (enum_rep rr))⟩⟩
        · cases r0 with
          | tup sl rr => exact ⟨_, _, rfl, .inr ⟨sl.sq, fun hl => f _ e1 k1 (by rw [numbered_len, ← rr.length]; exact hl) _ H1 M1 S1 s1 (walks_pair walk_enumT (fun H3 M3 s3 => (s3.stayT sl).sq) (by rw [numbered_len, rr.length]) (enum_rep rr))⟩⟩
        · exact k1.elim
    · exact k1.elim⟩
def coupled (xs ys : List PV) : List PV := xs.zipWith (fun x y => .tup [x, y]) ys
def iqZip (q : QAs) : QI := fun e K => q e fun ps e1 => match ps with
  | [.lst xs, .lst ys] => K (coupled xs ys) e1
  | _ => False
theorem i_zip {qA : QAs} (g : Good G lv X) (hm : X.mg "zip" = none) (ha : PA X [a, b] (LA G qA)) (hg : Gl X "zip" := by rfl) (hs : starEach [a, b] X.env = (false, eval a X.env) :: starEach [b] X.env := by rfl) (hpl : (backTo pos (starEach [b] X.env)).any (·.1) = false := by rfl) :
    PI X (.Tuple elts kk tpos) (.Call (.Name "zip" p) [a, b] [] pos) (LI G (iqZip qA)) :=
  PI.imp (pi_zipW hg hm ha hs hpl) fun σ H R ⟨e, M, K, S, q, f⟩ => ⟨e, M, _, S, q, fun ps e1 k1 vs H1 M1 S1 s1 R1 => by
    rw [g.K]
    split at k1
    · rename_i xs ys
      cases R1 with
      | cons r0 rt =>
        cases rt with
        | cons r1 rt =>
          cases rt
          cases r0 with
          | lst s1' rr1 =>
            cases r1 with
            | lst s2' rr2 =>
              refine ⟨_, _, _, _, rfl, s1'.sq, s2'.sq, fun hl => f _ e1 k1 (by unfold coupled; rw [List.length_zipWith, ← rr1.length]; omega) _ H1 M1 S1 s1 (walks_pair (walk_zip rfl) (fun H3 M3 s3 => ⟨(s3.stayL s1').sq, (s3.stayL s2').sq⟩) (by unfold coupled; rw [List.length_zipWith, rr1.length, rr2.length]) fun i t ht => ?_)⟩
              unfold coupled at ht
              rw [List.getElem?_zipWith] at ht
              cases c : xs[i]? with
              | none => rw [c] at ht; simp at ht
              | some z =>
                cases d : ys[i]? with
                | none => rw [c, d] at ht; simp at ht
                | some z2 =>
                  rw [c, d] at ht; cases ht
                  refine ⟨_, _, rfl, fun x y hx hy => ?_⟩
                  obtain ⟨w, hw, q1⟩ := rr1.get hx
                  obtain ⟨w2, hw2, q2⟩ := rr2.get hy
                  rw [c] at hw; cases hw
                  rw [d] at hw2; cases hw2
                  exact ⟨q1, q2⟩
    · exact k1.elim⟩
def count (lo : Int) (n : Nat) : List PV := (List.range n).map fun i => .int (lo + (i : Nat))
theorem walks_range {lo : Int} {n : Nat} {H : Hp} {M : Addr → Prop} : Walks G (Itr lo n) (CP.count lo n) H M := fun H2 M2 s _ => by
  refine ⟨fun i p hp => ?_, ?_⟩
  · unfold CP.count at hp
    rw [List.getElem?_map] at hp
    by_cases c : i < n
    · rw [List.getElem?_range c] at hp; cases hp
      refine ⟨c, fun x H3 y => ?_⟩
      obtain ⟨rfl, rfl⟩ := y
      exact ⟨.inl rfl, .int _⟩
    · rw [List.getElem?_eq_none_iff.mpr (show (List.range n).length ≤ i by rw [List.length_range]; omega)] at hp; cases hp
  · show n ≤ (CP.count lo n).length
    unfold CP.count; rw [List.length_map, List.length_range]; exact Nat.le_refl _
def iqRng1 (q : QAs) : QI := fun e K => q e fun ps e1 => match ps with
  | [.int j] => (-1000000 ≤ j ∧ j ≤ 1000000) ∧ K (CP.count 0 j.toNat) e1
  | _ => False
theorem i_rng1 {qA : QAs} (hm : X.mg "range" = none) (ha : PA X [a] (LA G qA)) (hg : Gl X "range" := by rfl) (hs : starEach [a] X.env = [(false, eval a X.env)] := by rfl) : PI X tg (.Call (.Name "range" p) [a] [] pos) (LI G (iqRng1 qA)) :=
  PI.imp (pi_range1 hg hm ha hs) fun σ H R ⟨e, M, K, S, q, f⟩ => ⟨e, M, _, S, q, fun ps e1 k1 vs H1 M1 S1 s1 R1 => by
    split at k1
    · rename_i j
      cases R1 with
      | cons r0 rt =>
        cases rt
        cases r0
        obtain ⟨⟨h1, h2⟩, k⟩ := k1
        exact ⟨j, rfl, by omega, by omega, f _ e1 k (by unfold CP.count; rw [List.length_map, List.length_range, sizeLine_eq]; omega) _ H1 M1 S1 s1 walks_range⟩
    · exact k1.elim⟩
end
end CP
namespace CP
open PySem PySem.Spec PyProof.Rows L2
def wipeE (e : PEnv) : List Nat → PEnv
  | [] => e
  | v :: vs => (wipeE e vs).set v .no
def stayV : Option Sl → Sl
  | some (Sl.val p) => .val p
  | _ => .no
def backE (e0 e : PEnv) : List Nat → PEnv
  | [] => e
  | v :: vs => (backE e0 e vs).set v (stayV e0[v]?)
def noIo (e : PEnv) (vs : List Nat) : Bool := vs.all fun v => match e[v]? with
  | some (Sl.io _) => false
  | _ => true
theorem wipeE_len (e : PEnv) : ∀ vs, (wipeE e vs).length = e.length
  | [] => rfl
  | v :: vs => by rw [wipeE, List.length_set, wipeE_len e vs]
theorem backE_len (e0 e : PEnv) : ∀ vs, (backE e0 e vs).length = e.length
  | [] => rfl
  | v :: vs => by rw [backE, List.length_set, backE_len e0 e vs]
theorem wipeE_out {e : PEnv} {i : Nat} : ∀ {vs : List Nat}, i ∉ vs → (wipeE e vs)[i]? = e[i]?
  | [], _ => rfl
  | v :: vs, h => by
    rw [wipeE, List.getElem?_set_ne (fun z => h (by rw [z]; exact List.mem_cons_self))]
    exact wipeE_out fun z => h (List.mem_cons_of_mem _ z)
theorem wipeE_in {e : PEnv} {i : Nat} {s : Sl} : ∀ {vs : List Nat}, i ∈ vs → (wipeE e vs)[i]? = some s → s = .no
  | v :: vs, h, q => by
    rw [wipeE] at q
    by_cases c : v = i
    · subst c
      have li := (List.getElem?_eq_some_iff.mp q).1
      rw [List.length_set] at li
      rw [List.getElem?_set_self li] at q
      exact (Option.some.inj q).symm
    · rw [List.getElem?_set_ne c] at q
      rcases List.mem_cons.mp h with z | z
      · exact absurd z.symm c
      · exact wipeE_in z q
theorem wipeE_some {e : PEnv} {i : Nat} {s : Sl} {vs : List Nat} (h : (wipeE e vs)[i]? = some s) (n : s ≠ .no) : i ∉ vs ∧ e[i]? = some s := by
  by_cases c : i ∈ vs
  · exact absurd (wipeE_in c h) n
  · rw [wipeE_out c] at h; exact ⟨c, h⟩
theorem backE_out {e0 e : PEnv} {i : Nat} : ∀ {vs : List Nat}, i ∉ vs → (backE e0 e vs)[i]? = e[i]?
  | [], _ => rfl
  | v :: vs, h => by
    rw [backE, List.getElem?_set_ne (fun z => h (by rw [z]; exact List.mem_cons_self))]
    exact backE_out fun z => h (List.mem_cons_of_mem _ z)
theorem backE_in {e0 e : PEnv} {i : Nat} {s : Sl} : ∀ {vs : List Nat}, i ∈ vs → (backE e0 e vs)[i]? = some s → s = stayV e0[i]?
  | v :: vs, h, q => by
    rw [backE] at q
    by_cases c : v = i
    · subst c
      have li := (List.getElem?_eq_some_iff.mp q).1
      rw [List.length_set] at li
      rw [List.getElem?_set_self li] at q
      exact (Option.some.inj q).symm
    · rw [List.getElem?_set_ne c] at q
      rcases List.mem_cons.mp h with z | z
      · exact absurd z.symm c
      · exact backE_in z q
theorem backE_some {e0 e : PEnv} {i : Nat} {s : Sl} {vs : List Nat} (h : (backE e0 e vs)[i]? = some s) : (i ∉ vs ∧ e[i]? = some s) ∨ (i ∈ vs ∧ s = stayV e0[i]?) := by
  by_cases c : i ∈ vs
  · exact .inr ⟨c, backE_in c h⟩
  · rw [backE_out c] at h; exact .inl ⟨c, h⟩
theorem sig_out {σ : L2.St} {vs : List Nat} {i : Nat} (h : i ∉ vs) : (wipe σ vs)[i]? = σ[i]? := wipe_out h
theorem noIo_of {e : PEnv} {vs : List Nat} (h : noIo e vs = true) {v : Nat} (hv : v ∈ vs) (p : PV) : e[v]? ≠ some (Sl.io p) := fun z => by
  have := List.all_eq_true.mp h v hv
  rw [z] at this; cases this
section
variable {G : Gh} {lv : Nat} {X : Cx} {e e0 : PEnv} {M : Addr → Prop} {σ : L2.St} {H : Hp}
theorem Mu.out {vs : List Nat} {i : Nat} (m : Mu (wipeE e vs) i) : i ∉ vs ∧ Mu e i := by
  obtain ⟨p, h | h⟩ := m
  · obtain ⟨a, b⟩ := wipeE_some h (fun z => by cases z); exact ⟨a, p, .inl b⟩
  · obtain ⟨a, b⟩ := wipeE_some h (fun z => by cases z); exact ⟨a, p, .inr b⟩
theorem StOk.wiped (S : StOk G e M σ H) {vs : List Nat} (no : ∀ i a, (i, a) ∈ G.iol → i ∉ vs) : StOk G (wipeE e vs) M (wipe σ vs) H := by
  refine ⟨by rw [wipeE_len, wipe_length]; exact S.len, fun i p h => ?_, fun i p h => ?_, fun i p h => ?_, fun i j a mi mj h1 h2 => ?_, fun i a h => ?_, S.m0, S.trk, S.prs, S.tmp⟩
  · obtain ⟨c, h⟩ := wipeE_some h (fun z => by cases z)
    obtain ⟨v, q1, q2⟩ := S.val i p h
    exact ⟨v, by rw [sig_out c]; exact q1, q2⟩
  · obtain ⟨c, h⟩ := wipeE_some h (fun z => by cases z)
    obtain ⟨v, q1, q2⟩ := S.own i p h
    exact ⟨v, by rw [sig_out c]; exact q1, q2⟩
  · obtain ⟨c, h⟩ := wipeE_some h (fun z => by cases z)
    obtain ⟨v, q0, q1, q2⟩ := S.io i p h
    exact ⟨v, q0, by rw [sig_out c]; exact q1, q2⟩
  · obtain ⟨c1, m1⟩ := mi.out
    obtain ⟨c2, m2⟩ := mj.out
    rw [sig_out c1] at h1
    rw [sig_out c2] at h2
    exact S.inj i j a m1 m2 h1 h2
  · have c := no i a h
    obtain ⟨q1, p, q2⟩ := S.iol i a h
    exact ⟨by rw [sig_out c]; exact q1, p, by rw [wipeE_out c]; exact q2⟩
abbrev Gh.under (G : Gh) (D : Addr) (o : HO) : Gh := { G with M0 := fun a => a = D ∨ G.M0 a, tmp := (D, o) :: G.tmp }
theorem StOk.enter (S : StOk G e M σ H) {D : Addr} (hD : H D = none) (u : HO) : StOk (G.under D u) e (fun a => a = D ∨ M a) σ (L2.upd H D u) ∧ Step H M (L2.upd H D u) (fun a => a = D ∨ M a) := by
  obtain ⟨S', st⟩ := S.newM (o := u) hD
  have nd : ∀ {a : Addr}, M a → a ≠ D := fun m z => S.trk _ m (z ▸ hD)
  refine ⟨⟨S'.len, S'.val, fun i p h => ?_, fun i p h => ?_, S'.inj, S'.iol, fun a h => h.elim .inl fun z => .inr (S.m0 a z), S'.trk, S'.prs, fun a o h => ?_⟩, st⟩
  · obtain ⟨a, q1, q2, q3, q4, q5⟩ := S'.own i p h
    obtain ⟨a', r1, _, r3, _⟩ := S.own i p h
    rw [q1] at r1; cases r1
    exact ⟨a, q1, q2, q3, fun z => z.elim (nd r3) q4, q5⟩
  · obtain ⟨a, q0, q1, q2, q3, q4⟩ := S'.io i p h
    obtain ⟨a', _, r1, _, r3, _⟩ := S.io i p h
    rw [q1] at r1; cases r1
    exact ⟨a, q0, q1, q2, q3, fun z => z.elim (nd r3) q4⟩
  · rcases List.mem_cons.mp h with z | z
    · cases z; exact ⟨.inl rfl, upd_same⟩
    · obtain ⟨q1, q2⟩ := S'.tmp a o z; exact ⟨.inr q1, q2⟩
theorem StOk.grow {D : Addr} {u w : HO} (S : StOk (G.under D u) e M σ H) (nt : ∀ o, (D, o) ∉ G.tmp) (h0 : G.H0 D = none) : StOk (G.under D w) e M σ (L2.upd H D w) ∧ Step H M (L2.upd H D w) M := by
  have mD : M D := S.m0 D (.inl rfl)
  have st : Step H M (L2.upd H D w) M := ⟨fun b o h n => by rw [upd_ne (fun z : b = D => n (by rw [z]; exact mD))]; exact h, fun _ _ h => h, fun b h => by
    by_cases c : b = D
    · rw [c, upd_same]; simp
    · rw [upd_ne c]; exact h⟩
  have ne : ∀ {a : Addr}, ¬ (a = D ∨ G.M0 a) → a ≠ D := fun h z => h (.inl z)
  refine ⟨⟨S.len, fun i p h => let ⟨v, q1, q2⟩ := S.val i p h; ⟨v, q1, q2.step st⟩, fun i p h => ?_, fun i p h => ?_, S.inj, S.iol, S.m0, fun a h => st.there a (S.trk a h), fun b o h n => ?_, fun a o h => ?_⟩, st⟩
  · obtain ⟨a, q1, q2, q3, q4, q5⟩ := S.own i p h
    exact ⟨a, q1, q2.step st (by rw [upd_ne (ne q4)]), q3, q4, q5⟩
  · obtain ⟨a, q0, q1, q2, q3, q4⟩ := S.io i p h
    exact ⟨a, q0, q1, q2.step st (by rw [upd_ne (ne q4)]), q3, q4⟩
  · have q := S.prs b o h n
    by_cases c : b = D
    · rw [c] at h; rw [show (G.under D u).H0 = G.H0 from rfl] at h; rw [h0] at h; cases h
    · rw [upd_ne c]; exact q
  · rcases List.mem_cons.mp h with z | z
    · cases z; exact ⟨.inl rfl, upd_same⟩
    · obtain ⟨q1, q2⟩ := S.tmp a o (List.mem_cons_of_mem _ z)
      exact ⟨q1, by rw [upd_ne (fun c : a = D => nt o (by rw [← c]; exact z))]; exact q2⟩
theorem StOk.leave {D : Addr} {xs : HO} {H1 : Hp} {M1 : Addr → Prop} {vs : List Nat} {τ : L2.St} (S1 : StOk G e0 M1 σ H1) (st : Step H1 M1 H M) (S : StOk (G.under D xs) e M τ H) (hw : τ = wipe σ vs) (hv : ∀ i ∈ vs, ∀ s, e[i]? = some s → s = .no) :
    StOk G (backE e0 e vs) M σ H := by
  subst hw
  have less : ∀ {a : Addr}, ¬ (a = D ∨ G.M0 a) → ¬ G.M0 a := fun h z => h (.inr z)
  have inn : ∀ {i : Nat} {s : Sl}, (backE e0 e vs)[i]? = some s → (∀ p, s ≠ .val p) → s ≠ .no → i ∉ vs ∧ e[i]? = some s := fun {i s} h n1 n2 => by
    rcases backE_some h with z | ⟨c, z⟩
    · exact z
    · unfold stayV at z
      split at z
      · exact absurd z (n1 _)
      · exact absurd z n2
  have mu : ∀ {i : Nat}, Mu (backE e0 e vs) i → i ∉ vs ∧ Mu e i := fun {i} ⟨p, h⟩ => by
    rcases h with h | h
    · obtain ⟨q1, q2⟩ := inn h (fun _ z => by cases z) (fun z => by cases z); exact ⟨q1, p, .inl q2⟩
    · obtain ⟨q1, q2⟩ := inn h (fun _ z => by cases z) (fun z => by cases z); exact ⟨q1, p, .inr q2⟩
  refine ⟨by rw [backE_len, S.len, wipe_length], fun i p h => ?_, fun i p h => ?_, fun i p h => ?_, fun i j a mi mj h1 h2 => ?_, fun i a h => ?_, fun a h => S.m0 a (.inr h), S.trk, S.prs, fun a o h => ?_⟩
  · rcases backE_some h with ⟨c, h⟩ | ⟨c, h⟩
    · obtain ⟨v, q1, q2⟩ := S.val i p h
      rw [sig_out c] at q1
      exact ⟨v, q1, q2⟩
    · unfold stayV at h
      split at h
      · rename_i q hq
        cases h
        obtain ⟨v, q1, q2⟩ := S1.val i p hq
        exact ⟨v, q1, q2.step st⟩
      · cases h
  · obtain ⟨c, h⟩ := inn h (fun _ z => by cases z) (fun z => by cases z)
    obtain ⟨a, q1, q2, q3, q4, q5⟩ := S.own i p h
    rw [sig_out c] at q1
    exact ⟨a, q1, q2, q3, less q4, q5⟩
  · obtain ⟨c, h⟩ := inn h (fun _ z => by cases z) (fun z => by cases z)
    obtain ⟨a, q0, q1, q2, q3, q4⟩ := S.io i p h
    rw [sig_out c] at q1
    exact ⟨a, q0, q1, q2, q3, less q4⟩
  · obtain ⟨c1, m1⟩ := mu mi
    obtain ⟨c2, m2⟩ := mu mj
    exact S.inj i j a m1 m2 (by rw [sig_out c1]; exact h1) (by rw [sig_out c2]; exact h2)
  · obtain ⟨q1, p, q2⟩ := S.iol i a h
    have c : i ∉ vs := fun c => by cases hv i c _ q2
    rw [sig_out c] at q1
    exact ⟨q1, p, by rw [backE_out c]; exact q2⟩
  · obtain ⟨q1, q2⟩ := S.tmp a o (List.mem_cons_of_mem _ h)
    obtain ⟨q3, _⟩ := S1.tmp a o h
    exact ⟨q3, q2⟩
def runC (g : QG) (t : QT) (q : QE) (vs : List Nat) : List PV → List PV → PEnv → (List PV → PEnv → Prop) → Prop
  | [], acc, e, k => k acc e
  | p :: ps, acc, e, k => g p e fun e1 => t e1 fun b e2 => if b = true then q e2 fun r e3 => keep r e3 fun x e4 => runC g t q vs ps (acc ++ [x]) (wipeE e4 vs) k else runC g t q vs ps acc (wipeE e2 vs) k
def qLc (i : QI) (g : QG) (t : QT) (q : QE) (vs : List Nat) : QE := fun e Q => i e fun items e1 => noIo e1 vs = true ∧ runC g t q vs items [] (wipeE e1 vs) fun acc e2 => Q (.fr (.lst acc)) (backE e1 e2 vs)
def qYes : QT := fun e Q => Q true e
theorem t_yes : PTs X [] (LT G qYes) := ⟨fun pins s σ H Q I ⟨e, M, K, S, q, f⟩ => pts_nil.run pins s σ H Q I (f true e q H M S .refl)⟩
theorem t_one {c : Expr} {t : QT} (h : PT X c (LT G t)) : PTs X [c] (LT G t) := pts_one h
theorem wipe_idem (σ : L2.St) (vs : List Nat) : wipe (wipe σ vs) vs = wipe σ vs := by
  refine List.ext_getElem? fun j => ?_
  by_cases c : j ∈ vs
  · cases h : (wipe σ vs)[j]? with
    | none =>
      have : ¬ j < (wipe σ vs).length := by rw [List.getElem?_eq_none_iff] at h; omega
      exact List.getElem?_eq_none_iff.mpr (by rw [wipe_length]; omega)
    | some o =>
      have lj := (List.getElem?_eq_some_iff.mp h).1
      have e1 : ∀ τ : L2.St, j < τ.length → (wipe τ vs)[j]? = some none := fun τ hl => by
        cases h2 : (wipe τ vs)[j]? with
        | none =>
          have := List.getElem?_eq_none_iff.mp h2
          rw [wipe_length] at this; omega
        | some o2 =>
          cases o2 with
          | none => rfl
          | some x => exact absurd c (wipe_some h2).2
      rw [wipe_length] at lj
      rw [e1 _ (by rw [wipe_length]; exact lj), ← h, e1 σ lj]
  · rw [wipe_out c]
theorem Good.blk (g : Good G lv X) (D : Addr) (xs : HO) (s : Shared) (H : Hp) (sc : Scope) (cenv : Env) (fp : List Addr) : Good (G.under D xs) lv (X.blk s H sc cenv fp) := ⟨g.P, g.w, g.K, g.calm, g.nd, g.room⟩
theorem lc_fin {items : List PV} {J : It} {vs : List Nat} {qg : QG} {qt : QT} {qe : QE} {Q : VK} {e1 : PEnv} {M1 : Addr → Prop} {H1 : Hp} {K : List PV → PEnv → Prop} (S1 : StOk G e1 M1 σ H1) (W : Walks G J items H1 M1) (hl : items.length ≤ sizeLine)
    (no : noIo e1 vs = true) (run : runC qg qt qe vs items [] (wipeE e1 vs) K) (fin : ∀ acc e2, K acc e2 → Aft G σ H1 M1 Q (.fr (.lst acc)) (backE e1 e2 vs)) {g' : TG} {t' : TT} {te' : TE}
    (hg : ∀ D xs v σ H Q, LG (Gh.under G D xs) vs qg v σ H Q → g' v σ H Q) (ht : ∀ D xs σ H Q, LT (Gh.under G D xs) qt σ H Q → t' σ H Q) (he : ∀ D xs σ H Q, LE (Gh.under G D xs) qe σ H Q → te' σ H Q) :
    ∀ D, H1 D = none → ∃ W : Nat → Nat → Hp → Prop, (∃ m, W 0 m (L2.upd H1 D (.lst []))) ∧ ∀ i m H, W i m H → (J.stop i H ∧ Q (.ref D) H) ∨ (J.go i H ∧ ∃ Nx : Hp → Prop, (∀ H', Nx H' → ∃ m', m' < m ∧ W (i + 1) m' H') ∧ ∀ x H', J.yld i H x H' → g' x (wipe σ vs) H' fun σ2 H2 => wipe σ2 vs = wipe σ vs ∧ t' σ2 H2 fun b H3 =>
      if b = true then te' σ2 H3 fun y H4 => ∃ acc, H4 D = some (.lst acc) ∧ acc.length < sizeLine ∧ Nx (L2.upd H4 D (.lst (acc ++ [y]))) else Nx H3) := by
  intro D hD
  have h0 : G.H0 D = none := S1.h0 hD
  have nt : ∀ o, (D, o) ∉ G.tmp := fun o z => by rw [(S1.tmp D o z).2] at hD; cases hD
  have nM : ¬ G.M0 D := fun z => S1.trk D (S1.m0 D z) hD
  have noi : ∀ i a, (i, a) ∈ G.iol → i ∉ vs := fun i a h c => by
    obtain ⟨_, p, q2⟩ := S1.iol i a h
    exact noIo_of no c p q2
  obtain ⟨Sn, sn⟩ := S1.enter hD (.lst [])
  -- the word of a turn
  refine ⟨fun i m H' => m = items.length - i ∧ i ≤ items.length ∧ ∃ (acc : List PV) (accV : List V) (e' : PEnv) (M' : Addr → Prop), StOk (G.under D (.lst accV)) e' M' (wipe σ vs) H' ∧ Step H1 M1 H' M' ∧ RepAll G.toEn H' M' accV acc ∧ acc.length ≤ i ∧ (∀ j ∈ vs, ∀ s, e'[j]? = some s → s = .no) ∧ runC qg qt qe vs (items.drop i) acc e' K,
    ⟨_, rfl, Nat.zero_le _, [], [], wipeE e1 vs, _, Sn.wiped (fun i a h => noi i a h), sn, .nil, Nat.le_refl _, fun j hj s h => wipeE_in hj h, run⟩, ?_⟩
  rintro i m H2 ⟨rfl, hi, acc, accV, e2, M2, S2, s2, ra, hacc, hv2, k2⟩
  obtain ⟨wg, ws⟩ := W H2 M2 s2 S2.trk
  by_cases c : i < items.length
  · have hp : items[i]? = some items[i] := List.getElem?_eq_getElem c
    obtain ⟨go, yl⟩ := wg i _ hp
    rw [List.drop_eq_getElem_cons c] at k2
    refine .inr ⟨go, fun H' => ∃ (acc : List PV) (accV : List V) (e' : PEnv) (M' : Addr → Prop), StOk (G.under D (.lst accV)) e' M' (wipe σ vs) H' ∧ Step H1 M1 H' M' ∧ RepAll G.toEn H' M' accV acc ∧ acc.length ≤ i + 1 ∧ (∀ j ∈ vs, ∀ s, e'[j]? = some s → s = .no) ∧ runC qg qt qe vs (items.drop (i + 1)) acc e' K, fun H' h => ⟨items.length - (i + 1), by omega, rfl, c, h⟩, fun x H3 y => ?_⟩
    obtain ⟨y1, y3⟩ := yl x H3 y
    have sy : Step H2 M2 H3 M2 := step_grow1 y1
    refine hg D (.lst accV) _ _ _ _ ⟨e2, M2, items[i], _, S2.grow1 y1, y3, k2, fun e4 k4 σ4 H4 M4 S4 s4 w4 => ?_⟩
    have w4' : wipe σ4 vs = wipe σ vs := by rw [w4, wipe_idem]
    refine ⟨w4', ht D (.lst accV) _ _ _ ⟨e4, M4, _, S4, k4, fun b e5 k5 H5 M5 S5 s5 => ?_⟩⟩
    have st5 : Step H2 M2 H5 M5 := (sy.trans s4).trans s5
    cases b with
    | false =>
      refine ⟨acc, accV, wipeE e5 vs, M5, ?_, s2.trans st5, ra.step st5, by omega, fun j hj s h => wipeE_in hj h, k5⟩
      rw [← w4']
      exact S5.wiped (fun i a h => noi i a h)
    | true =>
      refine he D (.lst accV) _ _ _ ⟨e5, M5, _, S5, k5, fun r e6 k6 v H6 M6 S6 s6 R6 => ?_⟩
      obtain ⟨x', e7, M7, k7, S7, s7, R7⟩ := keep_ok S6 R6 k6
      have st7 : Step H2 M2 H6 M7 := (st5.trans s6).trans s7
      obtain ⟨q1, q2⟩ := S7.tmp D (.lst accV) List.mem_cons_self
      have la := (ra.step st7).length
      refine ⟨accV, q2, by rw [la]; omega, acc ++ [x'], accV ++ [v], wipeE e7 vs, M7, ?_, ?_, ?_, by rw [List.length_append]; show acc.length + 1 ≤ _; omega, fun j hj s h => wipeE_in hj h, k7⟩
      · rw [← w4']
        exact ((S7.grow (w := .lst (accV ++ [v])) nt h0).1).wiped (fun i a h => noi i a h)
      · exact (s2.trans st7).trans (S7.grow (w := .lst (accV ++ [v])) nt h0).2
      · have sg := (S7.grow (w := .lst (accV ++ [v])) nt h0).2
        exact ((ra.step st7).step sg).append (.cons (R7.step sg) .nil)
  · have ei : i = items.length := by omega
    subst ei
    rw [List.drop_length] at k2
    refine .inl ⟨ws, fin acc e2 k2 _ _ M2 (S1.leave s2 S2 rfl hv2) s2 ⟨D, rfl, ⟨accV, ?_, ra⟩, S2.m0 D (.inl rfl), nM, h0, fun j m z => ?_⟩⟩
    · exact (S2.tmp D (.lst accV) List.mem_cons_self).2
    · have S' := S1.leave s2 S2 rfl hv2
      obtain ⟨p, h⟩ := m
      have key : j ∉ vs ∧ Mu e2 j := by
        rcases h with h | h
        · rcases backE_some h with ⟨c, h⟩ | ⟨_, h⟩
          · exact ⟨c, p, .inl h⟩
          · unfold stayV at h; split at h <;> cases h
        · rcases backE_some h with ⟨c, h⟩ | ⟨_, h⟩
          · exact ⟨c, p, .inr h⟩
          · unfold stayV at h; split at h <;> cases h
      obtain ⟨a, q, q1, _, _, _, q4, _⟩ := S2.mu key.2
      rw [sig_out key.1, z] at q1
      cases q1
      exact q4 (.inl rfl)
variable {elt tg iter : Expr} {ifs : List Expr} {scope : Scope} {own : List (Str × Nat)} {pos : Pos} {qi : QI} {qg : QG} {qt : QT} {qe : QE}
theorem lc_ok {σ : L2.St} {H : Hp} {Q : VK} {g' : TG} {t' : TT} {te' : TE} {vs : List Nat} (h : LE G (qLc qi qg qt qe vs) σ H Q) (hg : ∀ D xs v σ H Q, LG (Gh.under G D xs) vs qg v σ H Q → g' v σ H Q) (ht : ∀ D xs σ H Q, LT (Gh.under G D xs) qt σ H Q → t' σ H Q) (he : ∀ D xs σ H Q, LE (Gh.under G D xs) qe σ H Q → te' σ H Q) :
    tLc (LI G qi) g' t' te' vs σ H Q := by
  obtain ⟨e, M, K, S, q, f⟩ := h
  refine ⟨e, M, _, S, q, fun items e1 k1 hl J H1 M1 S1 s1 W => ?_⟩
  exact lc_fin S1 W hl k1.1 k1.2 (fun acc e2 k => (f _ _ k).from s1) hg ht he
abbrev UG (G : Gh) (vs : List Nat) (q : QG) : TG := fun v σ H Q => ∃ D xs, LG (Gh.under G D xs) vs q v σ H Q
abbrev UT (G : Gh) (q : QT) : TT := fun σ H Q => ∃ D xs, LT (Gh.under G D xs) q σ H Q
abbrev UE (G : Gh) (q : QE) : TE := fun σ H Q => ∃ D xs, LE (Gh.under G D xs) q σ H Q
theorem pg_ex {X : Cx} {α : Type} {a : Expr} {t : α → TG} (h : ∀ x, PG X a (t x)) : PG X a (fun v σ H Q => ∃ x, t x v σ H Q) := ⟨fun pins s σ H v u Q I r ⟨x, q⟩ => (h x).run pins s σ H v u Q I r q⟩
theorem pts_ex {X : Cx} {α : Type} {a : List Expr} {t : α → TT} (h : ∀ x, PTs X a (t x)) : PTs X a (fun σ H Q => ∃ x, t x σ H Q) := ⟨fun pins s σ H Q I ⟨x, q⟩ => (h x).run pins s σ H Q I q⟩
theorem pe_ex {X : Cx} {α : Type} {a : Expr} {t : α → TE} (h : ∀ x, PE X a (t x)) : PE X a (fun σ H Q => ∃ x, t x σ H Q) := ⟨fun pins s σ H Q I ⟨x, q⟩ => (h x).run pins s σ H Q I q⟩
theorem q_lc (g : Good G lv X) (hi : PI X tg iter (LI G qi)) (ok : BlkOk X.N X.env.scope scope own)
    (hg : ∀ (s : Shared) (H : Hp) (C : Addr) (cl : List (Str × Addr)) (fp : List Addr) (D : Addr) (xs : HO), Good (G.under D xs) lv (X.blk s H scope (compEnvC scope cl C X.env) fp) → PG (X.blk s H scope (compEnvC scope cl C X.env) fp) tg (LG (G.under D xs) (own.map (·.2)) qg))
    (ht : ∀ (s : Shared) (H : Hp) (C : Addr) (cl : List (Str × Addr)) (fp : List Addr) (D : Addr) (xs : HO), Good (G.under D xs) lv (X.blk s H scope (compEnvC scope cl C X.env) fp) → PTs (X.blk s H scope (compEnvC scope cl C X.env) fp) ifs (LT (G.under D xs) qt))
    (he : ∀ (s : Shared) (H : Hp) (C : Addr) (cl : List (Str × Addr)) (fp : List Addr) (D : Addr) (xs : HO), Good (G.under D xs) lv (X.blk s H scope (compEnvC scope cl C X.env) fp) → PE (X.blk s H scope (compEnvC scope cl C X.env) fp) elt (LE (G.under D xs) qe))
    (hs : ∀ x, foldedSetIterable iter X.env x = pure x := by intro _; rfl) : PE X (.ListComp elt [⟨tg, iter, ifs, 0⟩] scope pos) (LE G (qLc qi qg qt qe (own.map (·.2)))) :=
  PE.imp (pe_lc g.calm g.nd hi ok (fun s H C cl fp => pg_ex fun D => pg_ex fun xs => hg s H C cl fp D xs (g.blk D xs s H scope _ fp)) (fun s H C cl fp => pts_ex fun D => pts_ex fun xs => ht s H C cl fp D xs (g.blk D xs s H scope _ fp)) (fun s H C cl fp => pe_ex fun D => pe_ex fun xs => he s H C cl fp D xs (g.blk D xs s H scope _ fp)) hs)
    fun σ H Q h => lc_ok h (fun D xs v σ H Q k => ⟨D, xs, k⟩) (fun D xs σ H Q k => ⟨D, xs, k⟩) (fun D xs σ H Q k => ⟨D, xs, k⟩)
theorem s_setLc {i : Nat} {y : Str} {py spos : Pos} (g : Good G lv X) (hsw : swapsWith (.ListComp elt [⟨tg, iter, ifs, 0⟩] scope pos) (some (.Name y py)) spos.line X.env = pure true) (hi : PI X tg iter (LI G qi)) (ok : BlkOk X.N X.env.scope scope own)
    (hg : ∀ (s : Shared) (H : Hp) (C : Addr) (cl : List (Str × Addr)) (fp : List Addr) (D : Addr) (xs : HO), Good (G.under D xs) lv (X.blk s H scope (compEnvC scope cl C X.env) fp) → PG (X.blk s H scope (compEnvC scope cl C X.env) fp) tg (LG (G.under D xs) (own.map (·.2)) qg))
    (ht : ∀ (s : Shared) (H : Hp) (C : Addr) (cl : List (Str × Addr)) (fp : List Addr) (D : Addr) (xs : HO), Good (G.under D xs) lv (X.blk s H scope (compEnvC scope cl C X.env) fp) → PTs (X.blk s H scope (compEnvC scope cl C X.env) fp) ifs (LT (G.under D xs) qt))
    (he : ∀ (s : Shared) (H : Hp) (C : Addr) (cl : List (Str × Addr)) (fp : List Addr) (D : Addr) (xs : HO), Good (G.under D xs) lv (X.blk s H scope (compEnvC scope cl C X.env) fp) → PE (X.blk s H scope (compEnvC scope cl C X.env) fp) elt (LE (G.under D xs) qe))
    (hy : X.N[i]? = some y := by rfl) (hyl : X.env.scope.names.lookup y = some .local := by rfl) (hs : ∀ x, foldedSetIterable iter X.env x = pure x := by intro _; rfl) : PS X (.Assign [.Name y py] (.ListComp elt [⟨tg, iter, ifs, 0⟩] scope pos) spos) (LS G (sSet i (qLc qi qg qt qe (own.map (·.2))))) :=
  PS.imp (ps_setLc g.calm g.nd hy hyl hsw hi ok (fun s H C cl fp => pg_ex fun D => pg_ex fun xs => hg s H C cl fp D xs (g.blk D xs s H scope _ fp)) (fun s H C cl fp => pts_ex fun D => pts_ex fun xs => ht s H C cl fp D xs (g.blk D xs s H scope _ fp)) (fun s H C cl fp => pe_ex fun D => pe_ex fun xs => he s H C cl fp D xs (g.blk D xs s H scope _ fp)) hs)
    fun D σ H ⟨e, M, E, S, k, f⟩ => by
      have h : LE G (qLc qi qg qt qe (own.map (·.2))) σ H (fun x H1 => gName i x σ H1 D.nx) := ⟨e, M, _, S, k, fun r e1 k1 v H1 M1 S1 s1 R => by
        obtain ⟨e2, M2, k2, S2, s2⟩ := store_fin S1 R k1
        exact f.nx e2 k2 _ H1 M2 S2 (s1.trans s2)⟩
      exact lc_ok h (fun D xs v σ H Q k => ⟨D, xs, k⟩) (fun D xs σ H Q k => ⟨D, xs, k⟩) (fun D xs σ H Q k => ⟨D, xs, k⟩)
end
end CP
namespace CP
open PySem PySem.Spec PyProof.Rows L2
abbrev PG1 := List Sl → (QV → List Sl → Prop) → Prop
inductive ArgsOk (G : En) (H : Hp) (M : Addr → Prop) : List V → List Sl → Prop
  | nil : ArgsOk G H M [] []
  | val {v vs p ss} : Rep G H M v p → ArgsOk G H M vs ss → ArgsOk G H M (v :: vs) (.val p :: ss)
  | io {a vs p ss} : Obj G H M a p → M a → ArgsOk G H M vs ss → ArgsOk G H M (.ref a :: vs) (.io p :: ss)
def LentAt (vs : List V) (ss : List Sl) (i : Nat) (a : Addr) : Prop := vs[i]? = some (.ref a) ∧ ∃ p, ss[i]? = some (Sl.io p)
structure EndOk (G : En) (H : Hp) (M : Addr → Prop) (vs : List V) (ss : List Sl) (r : QV) (ss' : List Sl) (v : V) (H' : Hp) (M' : Addr → Prop) : Prop where
  keep : ∀ b o, H b = some o → (∀ i, ¬ LentAt vs ss i b) → H' b = some o
  there : ∀ b, H b ≠ none → H' b ≠ none
  more : ∀ b, M b → M' b
  trk : ∀ b, M' b → H' b ≠ none
  old : ∀ b, H b ≠ none → M' b → M b
  lent : ∀ (i : Nat) a, LentAt vs ss i a → ∃ p, ss'[i]? = some (Sl.io p) ∧ Obj G H' M' a p
  res : match r with
    | .sh p => Rep G H' M' v p
    | .fr p => ∃ a, v = .ref a ∧ H a = none ∧ Obj G H' M' a p ∧ M' a
    | .bor _ => False
def spP (G : En) (g : PG1) : Sp := fun vs H Q _ => ∃ ss M K, ArgsOk G H M vs ss ∧ (∀ i j a, LentAt vs ss i a → LentAt vs ss j a → i = j) ∧ (∀ a, M a → H a ≠ none) ∧ g ss K ∧
  ∀ r ss', K r ss' → ∀ v H' M', EndOk G H M vs ss r ss' v H' M' → Q v H'
theorem ArgsOk.len {G : En} {H : Hp} {M : Addr → Prop} : ∀ {vs : List V} {ss : List Sl}, ArgsOk G H M vs ss → vs.length = ss.length
  | _, _, .nil => rfl
  | _, _, .val _ r => by rw [List.length_cons, List.length_cons, ArgsOk.len r]
  | _, _, .io _ _ r => by rw [List.length_cons, List.length_cons, ArgsOk.len r]
theorem ArgsOk.at {G : En} {H : Hp} {M : Addr → Prop} : ∀ {vs : List V} {ss : List Sl} {i : Nat} {s : Sl}, ArgsOk G H M vs ss → ss[i]? = some s → ∃ v, vs[i]? = some v ∧ ((∃ p, s = .val p ∧ Rep G H M v p) ∨ ∃ a p, s = .io p ∧ v = .ref a ∧ Obj G H M a p ∧ M a)
  | _, _, _, _, .nil, h => by simp at h
  | _, _, 0, _, .val r _, h => by simp at h; subst h; exact ⟨_, rfl, .inl ⟨_, rfl, r⟩⟩
  | _, _, 0, _, .io o m _, h => by simp at h; subst h; exact ⟨_, rfl, .inr ⟨_, _, rfl, rfl, o, m⟩⟩
  | _, _, i + 1, s, .val _ r, h => by
    obtain ⟨v, e, q⟩ := ArgsOk.at (i := i) (s := s) r (by simpa using h)
    exact ⟨v, by simpa using e, q⟩
  | _, _, i + 1, s, .io _ _ r, h => by
    obtain ⟨v, e, q⟩ := ArgsOk.at (i := i) (s := s) r (by simpa using h)
    exact ⟨v, by simpa using e, q⟩
def startE (n : Nat) (ss : List Sl) : PEnv := ss ++ List.replicate (n - ss.length) .no
def bodyEnds (k : Nat) (K : QV → List Sl → Prop) : PEnds where
  nx := fun e => K (.sh .non) (e.take k)
  rt := fun r e => match r with
    | .sh p => K (.sh p) (e.take k)
    | .fr p => K (.fr p) (e.take k)
    | .bor i => match e[i]? with
      | some (Sl.val p) => K (.sh p) (e.take k)
      | some (Sl.own p) => K (.fr p) (e.take k)
      | _ => False
def iolOf : Nat → List V → List Sl → List (Nat × Addr)
  | n, .ref a :: vs, .io _ :: ss => (n, a) :: iolOf (n + 1) vs ss
  | n, _ :: vs, _ :: ss => iolOf (n + 1) vs ss
  | _, _, _ => []
theorem mem_iol {i : Nat} {a : Addr} : ∀ {vs : List V} {ss : List Sl} {n : Nat}, (i, a) ∈ iolOf n vs ss ↔ n ≤ i ∧ LentAt vs ss (i - n) a
  | [], ss, n => by
    unfold iolOf LentAt
    simp
  | v :: vs, [], n => by
    have : iolOf n (v :: vs) [] = [] := by unfold iolOf; cases v <;> rfl
    rw [this]
    unfold LentAt
    simp
  | v :: vs, s :: ss, n => by
    have ih := mem_iol (i := i) (a := a) (vs := vs) (ss := ss) (n := n + 1)
    have tail : (n + 1 ≤ i ∧ LentAt vs ss (i - (n + 1)) a) ↔ (n ≤ i ∧ i ≠ n ∧ LentAt (v :: vs) (s :: ss) (i - n) a) := by
      constructor
      · rintro ⟨h1, h2⟩
        refine ⟨by omega, by omega, ?_⟩
        have e : i - n = (i - (n + 1)) + 1 := by omega
        unfold LentAt at h2 ⊢
        rw [e]; simpa using h2
      · rintro ⟨h1, h2, h3⟩
        refine ⟨by omega, ?_⟩
        have e : i - n = (i - (n + 1)) + 1 := by omega
        unfold LentAt at h3 ⊢
        rw [e] at h3; simpa using h3
    have head : ∀ b, LentAt (v :: vs) (s :: ss) 0 b ↔ v = .ref b ∧ ∃ p, s = .io p := fun b => by unfold LentAt; simp
    by_cases c : (∃ b, v = .ref b) ∧ ∃ p, s = .io p
    · obtain ⟨⟨b, rfl⟩, p, rfl⟩ := c
      show (i, a) ∈ (n, b) :: iolOf (n + 1) vs ss ↔ _
      rw [List.mem_cons, ih, tail]
      constructor
      · rintro (h | ⟨h1, _, h3⟩)
        · cases h
          exact ⟨Nat.le_refl _, by rw [Nat.sub_self]; exact (head _).mpr ⟨rfl, p, rfl⟩⟩
        · exact ⟨h1, h3⟩
      · rintro ⟨h1, h2⟩
        by_cases e : i = n
        · subst e
          rw [Nat.sub_self] at h2
          obtain ⟨h3, _⟩ := (head _).mp h2
          cases h3; exact .inl rfl
        · exact .inr ⟨h1, e, h2⟩
    · have e : iolOf n (v :: vs) (s :: ss) = iolOf (n + 1) vs ss := by
        cases v <;> cases s <;> first | rfl | exact absurd ⟨⟨_, rfl⟩, _, rfl⟩ c
      rw [e, ih, tail]
      constructor
      · rintro ⟨h1, _, h3⟩; exact ⟨h1, h3⟩
      · rintro ⟨h1, h2⟩
        refine ⟨h1, fun z => ?_, h2⟩
        subst z
        rw [Nat.sub_self] at h2
        obtain ⟨h3, h4⟩ := (head _).mp h2
        exact c ⟨⟨_, h3⟩, h4⟩
abbrev bodyG (G : En) (H : Hp) (M : Addr → Prop) (vs : List V) (ss : List Sl) : Gh := { toEn := G, H0 := H, M0 := fun a => M a ∧ ∀ i, ¬ LentAt vs ss i a, iol := iolOf 0 vs ss, tmp := [] }
theorem iol0 {vs : List V} {ss : List Sl} {i : Nat} {a : Addr} : (i, a) ∈ iolOf 0 vs ss ↔ LentAt vs ss i a := by rw [mem_iol]; simp
section
variable {G : En} {H : Hp} {M : Addr → Prop} {vs : List V} {ss : List Sl} {N : List Str} {K : QV → List Sl → Prop}
theorem start_ok (A : ArgsOk G H M vs ss) (one : ∀ i j a, LentAt vs ss i a → LentAt vs ss j a → i = j) (trk : ∀ a, M a → H a ≠ none) (hl : ss.length ≤ N.length) : StOk (bodyG G H M vs ss) (startE N.length ss) M (L2.start N vs) H := by
  have lv := A.len
  have le : (startE N.length ss).length = N.length := by unfold startE; rw [List.length_append, List.length_replicate]; omega
  have ls : (L2.start N vs).length = N.length := by unfold L2.start; rw [List.length_append, List.length_map, List.length_replicate]; omega
  have inE : ∀ {i s}, (startE N.length ss)[i]? = some s → s ≠ Sl.no → ss[i]? = some s := fun {i s} h n => by
    unfold startE at h
    by_cases c : i < ss.length
    · rw [List.getElem?_append_left c] at h; exact h
    · rw [List.getElem?_append_right (by omega), List.getElem?_replicate] at h
      split at h
      · cases h; exact absurd rfl n
      · cases h
  have inV : ∀ {i v}, vs[i]? = some v → (L2.start N vs)[i]? = some (some v) := fun {i v} h => by
    have c := (List.getElem?_eq_some_iff.mp h).1
    unfold L2.start
    rw [List.getElem?_append_left (by rw [List.length_map]; exact c), List.getElem?_map, h]; rfl
  refine ⟨by rw [le, ls], fun i p h => ?_, fun i p h => ?_, fun i p h => ?_, fun i j a mi mj h1 h2 => ?_, fun i a h => ?_, fun a h => h.1, trk, fun b o h _ => h, fun a o h => by simp at h⟩
  · obtain ⟨v, hv, c⟩ := A.at (inE h (fun z => by cases z))
    rcases c with ⟨q, e, r⟩ | ⟨a, q, e, _⟩
    · cases e; exact ⟨v, inV hv, r⟩
    · cases e
  · obtain ⟨v, hv, c⟩ := A.at (inE h (fun z => by cases z))
    rcases c with ⟨q, e, r⟩ | ⟨a, q, e, _⟩ <;> cases e
  · have hs := inE h (fun z => by cases z)
    obtain ⟨v, hv, c⟩ := A.at hs
    rcases c with ⟨q, e, r⟩ | ⟨a, q, e, rfl, o, m⟩
    · cases e
    · cases e
      exact ⟨a, iol0.mpr ⟨hv, p, hs⟩, inV hv, o, m, fun z => z.2 i ⟨hv, p, hs⟩⟩
  · have mu : ∀ {i}, Mu (startE N.length ss) i → (L2.start N vs)[i]? = some (some (.ref a)) → LentAt vs ss i a := fun {i} ⟨p, h⟩ hs => by
      rcases h with h | h
      · have hs' := inE h (fun z => by cases z)
        obtain ⟨v, hv, c⟩ := A.at hs'
        rcases c with ⟨q, e, r⟩ | ⟨a, q, e, _⟩ <;> cases e
      · have hs' := inE h (fun z => by cases z)
        obtain ⟨v, hv, c⟩ := A.at hs'
        rw [inV hv] at hs; cases hs
        exact ⟨hv, p, hs'⟩
    exact one i j a (mu mi h1) (mu mj h2)
  · obtain ⟨h1, p, h2⟩ := iol0.mp h
    refine ⟨inV h1, p, ?_⟩
    unfold startE
    rw [List.getElem?_append_left (List.getElem?_eq_some_iff.mp h2).1]; exact h2
theorem end_ok {e : PEnv} {M' : Addr → Prop} {σ : L2.St} {H' : Hp} {v : V} {r : QV} (A : ArgsOk G H M vs ss) (S : StOk (bodyG G H M vs ss) e M' σ H') (st : Step H M H' M') (res : match r with
    | .sh p => Rep G H' M' v p
    | .fr p => ∃ a, v = .ref a ∧ H a = none ∧ Obj G H' M' a p ∧ M' a
    | .bor _ => False) : EndOk G H M vs ss r (e.take ss.length) v H' M' := by
  have lent : ∀ (i : Nat) a, LentAt vs ss i a → i < ss.length ∧ M' a ∧ ∃ p, e[i]? = some (Sl.io p) ∧ Obj G H' M' a p := fun i a h => by
    have h2 := h.2
    obtain ⟨q1, p, q2⟩ := S.iol i a (iol0.mpr h)
    obtain ⟨b, _, q3, q4, q5, _⟩ := S.io i p q2
    rw [q1] at q3; cases q3
    obtain ⟨_, h2⟩ := h2
    exact ⟨(List.getElem?_eq_some_iff.mp h2).1, q5, p, q2, q4⟩
  refine ⟨fun b o h n => S.prs b o h fun i hi => n i (iol0.mp hi), st.there, fun b h => ?_, S.trk, st.old, fun i a h => ?_, res⟩
  · by_cases c : ∃ i, LentAt vs ss i b
    · obtain ⟨i, hi⟩ := c
      exact (lent i b hi).2.1
    · exact S.m0 b ⟨h, fun i hi => c ⟨i, hi⟩⟩
  · obtain ⟨li, _, p, q1, q2⟩ := lent i a h
    exact ⟨p, by rw [List.getElem?_take_of_lt li]; exact q1, q2⟩
theorem body_ends {Q : VK} (A : ArgsOk G H M vs ss) (k : ∀ r ss', K r ss' → ∀ v H' M', EndOk G H M vs ss r ss' v H' M' → Q v H') :
    EndsTo (bodyG G H M vs ss) H M (bodyEnds ss.length K) { nx := fun _ H' => Q .non H', rt := Q } := by
  refine ⟨fun e h σ H' M' S st => ?_, fun r e h σ v H' M' S st R => ?_, fun e h => h.elim, fun e h => h.elim, fun x e h => h.elim⟩
  · exact k _ _ h .non H' M' (end_ok A S st .non)
  · cases r with
    | sh p => exact k _ _ h v H' M' (end_ok A S st R)
    | fr p =>
      obtain ⟨a, rfl, o, m, _, h0, _⟩ := R
      exact k _ _ h _ H' M' (end_ok A S st ⟨a, rfl, h0, o, m⟩)
    | bor i =>
      have h : (match e[i]? with
        | some (Sl.val p) => K (.sh p) (e.take ss.length)
        | some (Sl.own p) => K (.fr p) (e.take ss.length)
        | _ => False) := h
      have R : σ[i]? = some (some v) := R
      cases c : e[i]? with
      | none => rw [c] at h; exact h.elim
      | some s =>
        rw [c] at h
        cases s with
        | no => exact h.elim
        | io q => exact h.elim
        | val p =>
          obtain ⟨w, h1, h2⟩ := S.val i p c
          rw [R] at h1; cases h1
          exact k _ _ h v H' M' (end_ok A S st h2)
        | own p =>
          obtain ⟨a, h1, h2, h3, _, h5⟩ := S.own i p c
          rw [R] at h1; cases h1
          exact k _ _ h _ H' M' (end_ok A S st ⟨a, rfl, h5, h2, h3⟩)
end
inductive AV where
  | kept (p : PV) | lent (i : Nat)
abbrev QLs := PEnv → (List AV → PEnv → Prop) → Prop
inductive AvOk (G : Gh) (e : PEnv) (M : Addr → Prop) (σ : L2.St) (H : Hp) : List V → List AV → Prop
  | nil : AvOk G e M σ H [] []
  | kept {v vs p as} : Rep G.toEn H M v p → AvOk G e M σ H vs as → AvOk G e M σ H (v :: vs) (.kept p :: as)
  | lent {v vs i as} : σ[i]? = some (some v) → AvOk G e M σ H vs as → AvOk G e M σ H (v :: vs) (.lent i :: as)
def LL (G : Gh) (q : QLs) : TA := fun σ H Q => ∃ e M K, StOk G e M σ H ∧ q e K ∧ ∀ as e', K as e' → ∀ vs H' M', StOk G e' M' σ H' → Step H M H' M' → AvOk G e' M' σ H' vs as → Q vs H'
def lNil : QLs := fun e Q => Q [] e
def lKeep (qa : QE) (qr : QLs) : QLs := fun e Q => qa e fun r e1 => keep r e1 fun p e2 => qr e2 fun as e3 => Q (.kept p :: as) e3
def lLend (i : Nat) (qr : QLs) : QLs := fun e Q => qr e fun as e1 => Q (.lent i :: as) e1
section
variable {G : Gh} {lv : Nat} {X : Cx} {a : Expr} {es : List Expr} {qa : QE} {ql : QLs} {pos : Pos}
theorem l_nil : PA X [] (LL G lNil) := PA.imp pa_nil fun σ H Q ⟨e, M, K, S, q, f⟩ => f [] e q [] H M S .refl .nil
theorem l_keep (ha : PE X a (LE G qa)) (hr : PA X es (LL G ql)) (hs : starEach (a :: es) X.env = (false, eval a X.env) :: starEach es X.env := by rfl) : PA X (a :: es) (LL G (lKeep qa ql)) :=
  PA.imp (pa_cons ha hr hs) fun σ H Q ⟨e, M, K, S, q, f⟩ => ⟨e, M, _, S, q, fun r e1 k1 v H1 M1 S1 s1 R => by
    obtain ⟨p, e2, M2, k2, S2, s2, R2⟩ := keep_ok S1 R k1
    exact ⟨e2, M2, _, S2, k2, fun as e3 k3 vs H3 M3 S3 s3 A => f _ e3 k3 _ H3 M3 S3 ((s1.trans s2).trans s3) (.kept (R2.step s3) A)⟩⟩
def muB (e : PEnv) (i : Nat) : Bool := match e[i]? with
  | some (Sl.own _) => true
  | some (Sl.io _) => true
  | _ => false
def lLendM (i : Nat) (qr : QLs) : QLs := fun e Q => muB e i = true ∧ lLend i qr e Q
theorem mu_of {e : PEnv} {i : Nat} (h : muB e i = true) : Mu e i := by
  unfold muB at h
  split at h
  · rename_i p hp; exact ⟨p, .inl hp⟩
  · rename_i p hp; exact ⟨p, .inr hp⟩
  · cases h
theorem l_lend {i : Nat} (ha : PE X a (tVar i)) (hr : PA X es (LL G ql)) (hs : starEach (a :: es) X.env = (false, eval a X.env) :: starEach es X.env := by rfl) : PA X (a :: es) (LL G (lLendM i ql)) :=
  PA.imp (pa_cons ha hr hs) fun σ H Q ⟨e, M, K, S, q, f⟩ => by
    obtain ⟨m, q⟩ := q
    obtain ⟨b, p, h1, _⟩ := S.mu (mu_of m)
    exact ⟨_, h1, e, M, _, S, q, fun as e3 k3 vs H3 M3 S3 s3 A => f _ e3 k3 _ H3 M3 S3 s3 (.lent h1 A)⟩
def argS (e : PEnv) : AV → Option Sl
  | .kept p => some (.val p)
  | .lent i => (getC e i).map .io
def argSs (e : PEnv) : List AV → Option (List Sl)
  | [] => some []
  | a :: as => match argS e a, argSs e as with
    | some s, some ss => some (s :: ss)
    | _, _ => none
def putB : PEnv → List AV → List Sl → PEnv
  | e, .lent i :: as, .io p :: ss => putB (putC e i p) as ss
  | e, _ :: as, _ :: ss => putB e as ss
  | e, _, _ => e
def lents : List AV → List Nat
  | [] => []
  | .lent i :: as => i :: lents as
  | .kept _ :: as => lents as
def withSs (o : Option (List Sl)) (k : List Sl → Prop) : Prop := match o with
  | some p => k p
  | none => False
theorem withSs_of {o : Option (List Sl)} {k : List Sl → Prop} (h : withSs o k) : ∃ p, o = some p ∧ k p := by
  cases o with
  | none => exact h.elim
  | some p => exact ⟨p, rfl, h⟩
def qCall (g : PG1) (q : QLs) : QE := fun e Q => q e fun as e1 => (lents as).Nodup ∧ withSs (argSs e1 as) fun ss => g ss fun r ss' => match r with
  | .bor _ => False
  | r => Q r (putB e1 as ss')
variable {e : PEnv} {M : Addr → Prop} {σ : L2.St} {H : Hp}
theorem args_ok (S : StOk G e M σ H) : ∀ {vs : List V} {as : List AV} {ss : List Sl}, AvOk G e M σ H vs as → argSs e as = some ss → ArgsOk G.toEn H M vs ss ∧ as.length = ss.length ∧ ∀ (i : Nat) a, LentAt vs ss i a ↔ ∃ j, as[i]? = some (.lent j) ∧ Mu e j ∧ σ[j]? = some (some (.ref a))
  | _, _, ss, .nil, h => by
    cases h
    exact ⟨.nil, rfl, fun i a => by unfold LentAt; simp⟩
  | _, _, ss, .kept (v := v) (vs := vs) (p := p) (as := as) r t, h => by
    unfold argSs at h
    dsimp only [argS] at h
    cases c : argSs e as with
    | none => rw [c] at h; cases h
    | some ss' =>
      rw [c] at h; cases h
      obtain ⟨h1, h2, h3⟩ := args_ok S t c
      refine ⟨.val r h1, by rw [List.length_cons, List.length_cons, h2], fun i a => ?_⟩
      cases i with
      | zero => unfold LentAt; simp
      | succ i => have := h3 i a; unfold LentAt at this ⊢; simpa using this
  | _, _, ss, .lent (v := v) (vs := vs) (i := j) (as := as) r t, h => by
    unfold argSs at h
    dsimp only [argS] at h
    cases d : getC e j with
    | none => rw [d] at h; cases h
    | some p =>
      rw [d] at h
      cases c : argSs e as with
      | none => rw [c] at h; cases h
      | some ss' =>
        rw [c] at h; cases h
        obtain ⟨h1, h2, h3⟩ := args_ok S t c
        obtain ⟨mu, _⟩ := getC_mu d
        obtain ⟨a, q, q1, q2, q3, q4, _⟩ := S.mu mu
        rw [r] at q1; cases q1
        have eq : q = p := by
          obtain ⟨_, hp⟩ := getC_mu d
          rcases hp with hp | hp <;> rcases q2 with q2 | q2 <;> (rw [hp] at q2; cases q2 <;> rfl)
        subst eq
        refine ⟨.io q3 q4 h1, by rw [List.length_cons, List.length_cons, h2], fun i b => ?_⟩
        cases i with
        | zero =>
          unfold LentAt
          constructor
          · rintro ⟨e1, _⟩
            have e1 : V.ref a = V.ref b := by simpa using e1
            cases e1
            exact ⟨j, rfl, mu, r⟩
          · rintro ⟨j', e1, _, e3⟩
            have e1 : AV.lent j = AV.lent j' := by simpa using e1
            cases e1
            rw [r] at e3; cases e3
            exact ⟨rfl, q, rfl⟩
        | succ i => have := h3 i b; unfold LentAt at this ⊢; simpa using this
theorem argSs_at {e : PEnv} : ∀ {as : List AV} {ss : List Sl} {i j : Nat}, argSs e as = some ss → as[i]? = some (.lent j) → ∃ p, getC e j = some p
  | [], _, _, _, _, h => by simp at h
  | a :: as, ss, i, j, hs, h => by
    unfold argSs at hs
    cases c : argS e a with
    | none => rw [c] at hs; cases hs
    | some s =>
      rw [c] at hs
      cases d : argSs e as with
      | none => rw [d] at hs; cases hs
      | some ss' =>
        cases i with
        | succ i => exact argSs_at d (by simpa using h)
        | zero =>
          have : a = .lent j := by simpa using h
          subst this
          unfold argS at c
          dsimp only at c
          cases q : getC e j with
          | none => rw [q] at c; cases c
          | some p => exact ⟨p, rfl⟩
theorem lents_mem {as : List AV} {i j : Nat} (h : as[i]? = some (.lent j)) : j ∈ lents as := by
  induction as generalizing i with
  | nil => simp at h
  | cons a as ih =>
    cases i with
    | zero =>
      have : a = .lent j := by simpa using h
      subst this; exact List.mem_cons_self
    | succ i =>
      have q := ih (i := i) (by simpa using h)
      cases a with
      | kept p => exact q
      | lent k => exact List.mem_cons_of_mem _ q
theorem lents_one {as : List AV} (nd : (lents as).Nodup) {i k j : Nat} (h1 : as[i]? = some (.lent j)) (h2 : as[k]? = some (.lent j)) : i = k := by
  induction as generalizing i k with
  | nil => simp at h1
  | cons a as ih =>
    cases i with
    | zero =>
      cases k with
      | zero => rfl
      | succ k =>
        have e : a = .lent j := by simpa using h1
        subst e
        exact absurd (lents_mem (show as[k]? = some (.lent j) by simpa using h2)) (List.nodup_cons.mp nd).1
    | succ i =>
      cases k with
      | zero =>
        have e : a = .lent j := by simpa using h2
        subst e
        exact absurd (lents_mem (show as[i]? = some (.lent j) by simpa using h1)) (List.nodup_cons.mp nd).1
      | succ k =>
        have nd' : (lents as).Nodup := by
          cases a with
          | kept p => exact nd
          | lent m => exact (List.nodup_cons.mp nd).2
        exact congrArg (· + 1) (ih nd' (by simpa using h1) (by simpa using h2))
theorem putB_get : ∀ {as : List AV} {ss : List Sl} {e : PEnv}, as.length = ss.length → (lents as).Nodup → (∀ (i : Nat) j, as[i]? = some (.lent j) → ∃ p, ss[i]? = some (Sl.io p)) →
    (putB e as ss).length = e.length ∧ (∀ j, j ∉ lents as → (putB e as ss)[j]? = e[j]?) ∧ ∀ (i : Nat) j p s, as[i]? = some (.lent j) → ss[i]? = some (Sl.io p) → e[j]? = some s → (putB e as ss)[j]? = some (s.put p)
  | [], [], e, _, _, _ => ⟨rfl, fun _ _ => rfl, fun i j p s h => by simp at h⟩
  | .kept q :: as, s0 :: ss, e, hl, nd, hh => by
    obtain ⟨h1, h2, h3⟩ := putB_get (as := as) (ss := ss) (e := e) (by simpa using hl) nd fun i j h => by simpa using hh (i + 1) j (by simpa using h)
    have ee : putB e (.kept q :: as) (s0 :: ss) = putB e as ss := by cases s0 <;> rfl
    rw [ee]
    refine ⟨h1, h2, fun i j p s ha hs he => ?_⟩
    cases i with
    | zero => simp at ha
    | succ i => exact h3 i j p s (by simpa using ha) (by simpa using hs) he
  | .lent k :: as, s0 :: ss, e, hl, nd, hh => by
    obtain ⟨p0, hp0⟩ := hh 0 k rfl
    have : s0 = .io p0 := by simpa using hp0
    subst this
    obtain ⟨nk, nd'⟩ := List.nodup_cons.mp nd
    obtain ⟨h1, h2, h3⟩ := putB_get (as := as) (ss := ss) (e := putC e k p0) (by simpa using hl) nd' fun i j h => by simpa using hh (i + 1) j (by simpa using h)
    show (putB (putC e k p0) as ss).length = e.length ∧ (∀ j, j ∉ k :: lents as → (putB (putC e k p0) as ss)[j]? = e[j]?) ∧ _
    refine ⟨by rw [h1, putC_len], fun j hj => ?_, fun i j p s ha hs he => ?_⟩
    · rw [h2 j (fun z => hj (List.mem_cons_of_mem _ z)), putC_ne (fun z => hj (by rw [z]; exact List.mem_cons_self))]
    · cases i with
      | zero =>
        have e1 : k = j := by simpa using ha
        have e2 : p0 = p := by simpa using hs
        subst e1 e2
        show (putB (putC e k p0) as ss)[k]? = _
        rw [h2 k nk, putC_same p0 he]
      | succ i =>
        have ha' : as[i]? = some (.lent j) := by simpa using ha
        refine h3 i j p s ha' (by simpa using hs) ?_
        have : j ≠ k := fun z => nk (z ▸ lents_mem ha')
        rw [putC_ne this]; exact he
  | [], _ :: _, _, hl, _, _ => by simp at hl
  | _ :: _, [], _, hl, _, _ => by simp at hl
theorem put_val {s : Sl} {p q : PV} (h : s.put p = .val q) : s = .val q := by cases s <;> simp [Sl.put] at h ⊢; exact h
theorem put_own {s : Sl} {p q : PV} (h : s.put p = .own q) : (∃ r, s = .own r) ∧ q = p := by cases s <;> simp [Sl.put] at h ⊢; exact h.symm
theorem put_io {s : Sl} {p q : PV} (h : s.put p = .io q) : (∃ r, s = .io r) ∧ q = p := by cases s <;> simp [Sl.put] at h ⊢; exact h.symm
theorem call_back (S : StOk G e M σ H) {vs : List V} {as : List AV} {ss ss' : List Sl} {r : QV} {v : V} {H' : Hp} {M' : Addr → Prop} (A : AvOk G e M σ H vs as) (nd : (lents as).Nodup) (hs : argSs e as = some ss) (E : EndOk G.toEn H M vs ss r ss' v H' M') (hl : ss'.length = ss.length) :
    StOk G (putB e as ss') M' σ H' ∧ Step H M H' M' ∧ (∀ p, r = .sh p ∨ r = .fr p → Res G (putB e as ss') M' σ H' v r) := by
  obtain ⟨_, la, lent⟩ := args_ok S A hs
  have mem : ∀ {j}, j ∈ lents as → ∃ i : Nat, as[i]? = some (.lent j) := by
    intro j hj
    clear A hs la lent hl nd
    induction as with
    | nil => simp [lents] at hj
    | cons a as ih =>
      cases a with
      | kept p =>
        obtain ⟨i, hi⟩ := ih hj
        exact ⟨i + 1, by simpa using hi⟩
      | lent k =>
        rcases List.mem_cons.mp hj with rfl | hj
        · exact ⟨0, rfl⟩
        · obtain ⟨i, hi⟩ := ih hj
          exact ⟨i + 1, by simpa using hi⟩
  have mus : ∀ {i j : Nat}, as[i]? = some (.lent j) → Mu e j ∧ ∃ a, σ[j]? = some (some (.ref a)) := by
    intro i j hj
    obtain ⟨p, hp⟩ := argSs_at hs hj
    obtain ⟨m, _⟩ := getC_mu hp
    obtain ⟨a, _, q1, _⟩ := S.mu m
    exact ⟨m, a, q1⟩
  have ios : ∀ (i : Nat) j, as[i]? = some (.lent j) → ∃ p, ss'[i]? = some (Sl.io p) := fun i j h => by
    obtain ⟨m, a, ha⟩ := mus h
    obtain ⟨p, hp, _⟩ := E.lent i a ((lent i a).mpr ⟨j, h, m, ha⟩)
    exact ⟨p, hp⟩
  obtain ⟨pl, pout, pin⟩ := putB_get (e := e) (la.trans hl.symm) nd ios
  have st : Step H M H' M' := by
    refine ⟨fun b o h n => E.keep b o h fun i hi => n ?_, E.old, E.there⟩
    obtain ⟨j, _, m, ha⟩ := (lent i b).mp hi
    obtain ⟨a', _, q1, _, _, q2, _⟩ := S.mu m
    rw [ha] at q1; cases q1; exact q2
  -- a slot that was not lent
  have away : ∀ {j : Nat} {a : Addr}, j ∉ lents as → Mu e j → σ[j]? = some (some (.ref a)) → ∀ i, ¬ LentAt vs ss i a := fun {j a} hj m ha i hi => by
    obtain ⟨j', e1, m', ha'⟩ := (lent i a).mp hi
    have : j = j' := S.inj j j' a m m' ha ha'
    subst this
    exact hj (lents_mem e1)
  have same : ∀ {j a}, j ∉ lents as → Mu e j → σ[j]? = some (some (.ref a)) → H' a = H a := fun {j a} hj m ha => by
    obtain ⟨a', p, q1, _, o, _⟩ := S.mu m
    rw [ha] at q1; cases q1
    have nt := o.there
    cases z : H a with
    | none => exact absurd z nt
    | some u => exact E.keep a u z (away hj m ha)
  -- a slot behind the call
  have sl : ∀ {j : Nat} {s : Sl}, (putB e as ss')[j]? = some s → (j ∉ lents as ∧ e[j]? = some s) ∨ ∃ (i : Nat) (p : PV) (s0 : Sl), as[i]? = some (.lent j) ∧ ss'[i]? = some (Sl.io p) ∧ e[j]? = some s0 ∧ s = s0.put p := fun {j s} h => by
    by_cases c : j ∈ lents as
    · obtain ⟨i, hi⟩ := mem c
      obtain ⟨p, hp⟩ := ios i j hi
      have lj : j < e.length := by rw [← pl]; exact (List.getElem?_eq_some_iff.mp h).1
      have e0 : e[j]? = some e[j] := List.getElem?_eq_getElem lj
      have q := pin i j p _ hi hp e0
      rw [h] at q
      exact .inr ⟨i, p, _, hi, hp, e0, Option.some.inj q⟩
    · exact .inl ⟨c, by rw [← pout j c]; exact h⟩
  have muI : ∀ {j}, Mu (putB e as ss') j → Mu e j := fun {j} ⟨p, h⟩ => by
    rcases h with h | h
    · rcases sl h with ⟨_, h⟩ | ⟨i, p', s0, _, _, h, z⟩
      · exact ⟨p, .inl h⟩
      · obtain ⟨⟨q, rfl⟩, _⟩ := put_own z.symm; exact ⟨q, .inl h⟩
    · rcases sl h with ⟨_, h⟩ | ⟨i, p', s0, _, _, h, z⟩
      · exact ⟨p, .inr h⟩
      · obtain ⟨⟨q, rfl⟩, _⟩ := put_io z.symm; exact ⟨q, .inr h⟩
  have S' : StOk G (putB e as ss') M' σ H' := by
    refine ⟨by rw [pl]; exact S.len, fun j p h => ?_, fun j p h => ?_, fun j p h => ?_, fun i j a mi mj => S.inj i j a (muI mi) (muI mj), fun j a h => ?_, fun a h => E.more a (S.m0 a h), E.trk, fun b o h n => ?_, fun a o h => ?_⟩
    · have h' : e[j]? = some (Sl.val p) := by
        rcases sl h with ⟨_, h⟩ | ⟨i, p', s0, _, _, h, z⟩
        · exact h
        · rw [put_val z.symm] at h; exact h
      obtain ⟨u, q1, q2⟩ := S.val j p h'
      exact ⟨u, q1, q2.step st⟩
    · rcases sl h with ⟨c, h⟩ | ⟨i, p', s0, ha, hp, h, z⟩
      · obtain ⟨a, q1, q2, q3, q4, q5⟩ := S.own j p h
        exact ⟨a, q1, q2.step st (same c ⟨p, .inl h⟩ q1), E.more a q3, q4, q5⟩
      · obtain ⟨⟨q, rfl⟩, rfl⟩ := put_own z.symm
        obtain ⟨a, q1, q2, q3, q4, q5⟩ := S.own j q h
        obtain ⟨p2, e1, e2⟩ := E.lent i a ((lent i a).mpr ⟨j, ha, ⟨q, .inl h⟩, q1⟩)
        rw [hp] at e1; cases e1
        exact ⟨a, q1, e2, E.more a q3, q4, q5⟩
    · rcases sl h with ⟨c, h⟩ | ⟨i, p', s0, ha, hp, h, z⟩
      · obtain ⟨a, q0, q1, q2, q3, q4⟩ := S.io j p h
        exact ⟨a, q0, q1, q2.step st (same c ⟨p, .inr h⟩ q1), E.more a q3, q4⟩
      · obtain ⟨⟨q, rfl⟩, rfl⟩ := put_io z.symm
        obtain ⟨a, q0, q1, q2, q3, q4⟩ := S.io j q h
        obtain ⟨p2, e1, e2⟩ := E.lent i a ((lent i a).mpr ⟨j, ha, ⟨q, .inr h⟩, q1⟩)
        rw [hp] at e1; cases e1
        exact ⟨a, q0, q1, e2, E.more a q3, q4⟩
    · obtain ⟨q1, p, q2⟩ := S.iol j a h
      refine ⟨q1, ?_⟩
      by_cases c : j ∈ lents as
      · obtain ⟨i, hi⟩ := mem c
        obtain ⟨p', hp⟩ := ios i j hi
        exact ⟨p', by rw [pin i j p' _ hi hp q2]; rfl⟩
      · exact ⟨p, by rw [pout j c]; exact q2⟩
    · have q := S.prs b o h n
      refine E.keep b o q fun i hi => ?_
      obtain ⟨j, _, m, ha⟩ := (lent i b).mp hi
      obtain ⟨a', _, q1, _, _, _, _, q2⟩ := S.mu m
      rw [ha] at q1; cases q1
      rcases q2 with q2 | q2
      · rw [h] at q2; cases q2
      · exact n j q2
    · obtain ⟨q1, q2⟩ := S.tmp a o h
      refine ⟨q1, E.keep a o q2 fun i hi => ?_⟩
      obtain ⟨j, _, m, ha⟩ := (lent i a).mp hi
      obtain ⟨a', _, r1, _, _, _, r2, _⟩ := S.mu m
      rw [ha] at r1; cases r1
      exact r2 q1
  refine ⟨S', st, fun p hr => ?_⟩
  rcases hr with rfl | rfl
  · exact E.res
  · obtain ⟨a, rfl, h0, o, m⟩ := E.res
    refine ⟨a, rfl, o, m, fun z => S.trk a (S.m0 a z) h0, S.h0 h0, fun j mj z => ?_⟩
    obtain ⟨a', _, q1, _, q2, _⟩ := S.mu (muI mj)
    rw [z] at q1; cases q1
    exact q2.there h0
variable {x : Str} {p : Pos} {k : Nat} {f : Addr} {fd : FuncData} {ps : List Str} {g : PG1}
theorem q_call (gd : Good G lv X) (F : FnOk X.prog X.w X.K X.mg X.base CX0 k f fd ps (spP G.toEn g)) (hk : k ≤ lv) (hm : X.mg x = some (.ref f)) (kp : PySem.W.keepIn X.K (.ref f) = true) (hb : Binds X.K fd ps []) (hout : ∀ ss Q, g ss Q → g ss fun r ss' => Q r ss' ∧ ss'.length = ss.length) (ha : PA X (a :: es) (LL G ql))
    (hg : Gl X x := by rfl) (hdb : (x == ("__debug__" : Str)) = false := by decide) (he : starEach (a :: es) X.env = (false, eval a X.env) :: starEach es X.env := by rfl) (hpl : (backTo pos (starEach es X.env)).any (·.1) = false := by rfl) : PE X (.Call (.Name x p) (a :: es) [] pos) (LE G (qCall g ql)) :=
  PE.imp (pe_call F (gd.room.mono hk) hg hm kp hb .nil pass0 ha hdb he hpl) fun σ H Q ⟨e, M, K, S, q, fin⟩ => ⟨e, M, _, S, q, fun as e1 k1 vs H1 M1 S1 s1 A => by
    obtain ⟨nd, k1⟩ := k1
    obtain ⟨ss, hs, k1⟩ := withSs_of k1
    obtain ⟨A', _, lent⟩ := args_ok S1 A hs
    rw [List.append_nil]
    refine ⟨ss, M1, _, A', fun i j b hi hj => ?_, S1.trk, hout ss _ k1, fun r ss' ⟨kr, hl⟩ v H' M' E => ?_⟩
    · obtain ⟨i', e1, m1, a1⟩ := (lent i b).mp hi
      obtain ⟨j', e2, m2, a2⟩ := (lent j b).mp hj
      have : i' = j' := S1.inj i' j' b m1 m2 a1 a2
      subst this
      exact lents_one nd e1 e2
    · obtain ⟨S', st, R⟩ := call_back S1 A nd hs E hl
      cases r with
      | sh p => exact fin _ _ kr v H' M' S' (s1.trans st) (R p (.inl rfl))
      | fr p => exact fin _ _ kr v H' M' S' (s1.trans st) (R p (.inr rfl))
      | bor i => exact kr.elim⟩
end
end CP
namespace CP
open PySem PySem.Spec PyProof.Rows L2
section
variable {G : Gh} {lv : Nat} {X : Cx} {a b c : Expr} {es : List Expr} {qa qb : QE} {qA : QAs} {qB : QBs} {pos p apos cpos : Pos} {o : Expr} {T id : String} {name : Str}
abbrev GM := PV → List PV → (PV → PV → Prop) → Prop
def lstB (e : PEnv) (i : Nat) : Bool := match getC e i with
  | some (.lst _) => true
  | _ => false
def qLm (i : Nat) (q : QAs) (g : GM) : QE := fun e Q => lstB e i = true ∧ q e fun ps e1 => withP (getC e1 i) fun p => g p ps fun p' x => Q (.sh x) (putC e1 i p')
def LiftM (G : Gh) (r : V → List V → Hp → VK → Prop) (g : GM) : Prop := ∀ (M : Addr → Prop) (H : Hp) (a : Addr) (p : PV) (vs : List V) (ps : List PV) (Q : VK) (k : PV → PV → Prop), Obj G.toEn H M a p → M a → RepAll G.toEn H M vs ps → g p ps k →
  (∀ p' x o v, k p' x → (Step H M (L2.upd H a o) M → Obj G.toEn (L2.upd H a o) M a p') → (Step H M (L2.upd H a o) M → Rep G.toEn (L2.upd H a o) M v x) → Q v (L2.upd H a o)) → r (.ref a) vs H Q
theorem get_one {e : PEnv} {i : Nat} {p q : PV} (hs : e[i]? = some (Sl.own p) ∨ e[i]? = some (Sl.io p)) (q2 : e[i]? = some (Sl.own q) ∨ e[i]? = some (Sl.io q)) : q = p := by
  rcases hs with hs | hs <;> rcases q2 with q2 | q2 <;> (rw [hs] at q2; cases q2 <;> rfl)
theorem StOk.cont {e : PEnv} {M : Addr → Prop} {σ : L2.St} {H : Hp} (S : StOk G e M σ H) {i : Nat} {p : PV} (h : getC e i = some p) : ∃ a, σ[i]? = some (some (.ref a)) ∧ Obj G.toEn H M a p ∧ M a := by
  obtain ⟨m1, hs⟩ := getC_mu h
  obtain ⟨a', q', q1, q2, q3, q4, _⟩ := S.mu m1
  rw [get_one hs q2] at q3
  exact ⟨a', q1, q3, q4⟩
theorem lm_ok {i : Nat} {g : GM} {r : V → List V → Hp → VK → Prop} (l : LiftM G r g) {σ : L2.St} {H : Hp} {Q : VK} (h : LE G (qLm i qA g) σ H Q) : tBM X.K "list" r (tVar i) (LA G qA) σ H Q := by
  obtain ⟨e, M, K, S, ⟨mb, q⟩, f⟩ := h
  unfold lstB at mb
  split at mb
  · rename_i xs hx
    obtain ⟨a, h1, ⟨us, hu, _⟩, _⟩ := S.cont hx
    refine ⟨.ref a, h1, .inl ⟨rfl, _, .inl (.inl hu)⟩, e, M, _, S, q, fun ps e1 k1 vs H1 M1 S1 s1 R => ?_⟩
    obtain ⟨p, hp, k2⟩ := withP_of k1
    obtain ⟨a', q1, q3, q4⟩ := S1.cont hp
    rw [h1] at q1; cases q1
    refine l M1 H1 a p vs ps Q _ q3 q4 R k2 (fun p' x o v kk ob rv => ?_)
    obtain ⟨S2, s2⟩ := S1.change hp h1 ob
    exact f _ _ kk v _ M1 S2 (s1.trans s2) (rv s2)
  · cases mb
theorem q_lm {i : Nat} {g : GM} {r : V → List V → Hp → VK → Prop} (l : LiftM G r g) (slot : Slot "list" name id) (hty : typeOf (.builtin id) = pure (.type "method_descriptor")) (hm : MtR X id r) (ho : PE X o (tVar i)) (ha : PA X (a :: es) (LA G qA))
    (hbase : attributeBase o name X.env (eval o X.env) = eval o X.env := by rfl)
    (hfew : ((backTo cpos (starEach (a :: es) X.env)).all (fun x => !x.1) && (backToKw cpos (keywordEach [] X.env)).all (fun x => x.1.isSome) && decide ((a :: es).length + ([] : List Keyword).length + (if ([] : List Keyword).isEmpty then 0 else 1) < 30)) = true := by rfl)
    (hline : (apos.endLine == cpos.line) = true := by rfl) (hs : starEach (a :: es) X.env = (false, eval a X.env) :: starEach es X.env := by rfl) (hplain : (backTo cpos (starEach es X.env)).any (·.1) = false := by rfl) :
    PE X (.Call (.Attribute o name apos) (a :: es) [] cpos) (LE G (qLm i qA g)) := PE.imp (pe_bm PySem.F.plainAttrs_list slot hty hm ho ha hbase hfew hline hs hplain) fun σ H Q h => lm_ok l h
def gAppend : GM := fun p ps k => match p, ps with
  | .lst xs, [x] => xs.length < SZ ∧ k (.lst (xs ++ [x])) .non
  | _, _ => False
theorem l_append : LiftM G rAppend gAppend := fun M H a p vs ps Q k o ma R g f => by
  unfold gAppend at g
  split at g
  · obtain ⟨us, hu, ru⟩ := o
    cases R with
    | cons r0 rt =>
      cases rt
      refine ⟨a, us, _, rfl, rfl, hu, by rw [ru.length]; exact sz_fits1 g.1, f _ _ _ _ g.2 (fun s => ⟨_, upd_same, (ru.step s).append (.cons (r0.step s) .nil)⟩) fun s => .non⟩
  · exact g.elim
def gExtend : GM := fun p ps k => match p, ps with
  | .lst xs, [.lst ys] => xs.length + ys.length ≤ SZ ∧ k (.lst (xs ++ ys)) .non
  | _, _ => False
def rExtendQ : V → List V → Hp → VK → Prop := fun x vs H Q => ∃ l b xs zs, x = .ref l ∧ vs = [.ref b] ∧ H l = some (.lst xs) ∧ Rd H b (.lst zs) ∧ xs.length + zs.length ≤ sizeLine ∧ Q .non (L2.upd H l (.lst (xs ++ zs)))
theorem l_extend : LiftM G rExtendQ gExtend := fun M H a p vs ps Q k o ma R g f => by
  unfold gExtend at g
  split at g
  · obtain ⟨us, hu, ru⟩ := o
    cases R with
    | cons r0 rt =>
      cases rt
      cases r0 with
      | lst sl rr =>
        refine ⟨a, _, us, _, rfl, rfl, hu, sl.1, by rw [ru.length, rr.length]; exact sz_fits g.1, f _ _ _ _ g.2 (fun s => ⟨_, upd_same, (ru.step s).append (rr.step s)⟩) fun s => .non⟩
  · exact g.elim
theorem mt_extendQ : MtR X "list.extend" rExtendQ := by
  intro pins s σ H x vs v us Q I rx rv h
  obtain ⟨l, b, xs, zs, rfl, rfl, hH, hB, hz, q⟩ := h
  cases rx
  obtain ⟨u, rfl, ru⟩ := rv.one
  cases ru
  obtain ⟨z, its, n, r, hl, e⟩ := I.lstM hH
  obtain ⟨z2, its2, n2, r2, e2⟩ := hB.ok I.hok
  have hl2 := r2.length
  have hsz : its.toArray.size + its2.toArray.size ≤ sizeLine := by rw [List.size_toArray, List.size_toArray]; omega
  have hlong : ¬ (!its.toArray.isEmpty && Builtin.List.listTooLong (its.toArray.size + its2.toArray.size)) = true := by
    rw [notLongL hsz, Bool.and_false]
    exact Bool.false_ne_true
  refine call_meets F.slot_list_extend ⟨_, e, rfl⟩ F.entry_list_extend (F.args_list_extend_2 _ _)
    (AutoSeq1.list_extend_list_list_0 l its.toArray n b its2.toArray n2 hlong (by rw [List.size_toArray]; omega) (by omega)) ⟨e, e2, ?_⟩
  refine ⟨.non, _, I.lset (its' := its ++ its2) hH e (by simp) (r.append r2) ?_, rfl, q⟩
  rw [List.length_append]
  omega
def gPopAt : GM := fun p ps k => match p, ps with
  | .lst xs, [.int i] => (-1000000 ≤ i ∧ i ≤ 1000000) ∧ ∃ j x, ixN xs.length i = some j ∧ xs[j]? = some x ∧ k (.lst (xs.eraseIdx j)) x
  | _, _ => False
theorem l_popAt : LiftM G rPopAt gPopAt := fun M H a p vs ps Q k o ma R g f => by
  unfold gPopAt at g
  split at g
  · obtain ⟨us, hu, ru⟩ := o
    obtain ⟨⟨h1, h2⟩, j, x, hj, hx, g⟩ := g
    cases R with
    | cons r0 rt =>
      cases rt
      cases r0
      obtain ⟨v, hv, rv⟩ := ru.get' hx
      rw [← ru.length] at hj
      refine ⟨a, us, _, j, v, rfl, rfl, hu, by omega, by omega, (ixN_seq hj).1, hv, f _ _ _ _ g (fun s => ⟨_, upd_same, (ru.step s).erase j⟩) fun s => rv.step s⟩
  · exact g.elim
variable (g0 : Good G lv X)
theorem q_append {i : Nat} (ho : PE X o (tVar i)) (ha : PA X [a] (LA G qA)) (hbase : attributeBase o "append" X.env (eval o X.env) = eval o X.env := by rfl)
    (hfew : ((backTo cpos (starEach [a] X.env)).all (fun x => !x.1) && (backToKw cpos (keywordEach [] X.env)).all (fun x => x.1.isSome) && decide (([a] : List Expr).length + ([] : List Keyword).length + (if ([] : List Keyword).isEmpty then 0 else 1) < 30)) = true := by rfl)
    (hline : (apos.endLine == cpos.line) = true := by rfl) (hs : starEach [a] X.env = (false, eval a X.env) :: starEach [] X.env := by rfl) (hplain : (backTo cpos (starEach [] X.env)).any (·.1) = false := by rfl) :
    PE X (.Call (.Attribute o "append" apos) [a] [] cpos) (LE G (qLm i qA gAppend)) := q_lm l_append PySem.F.slot_list_append PySem.F.type_list_append mt_append ho ha hbase hfew hline hs hplain
theorem q_extend {i : Nat} (ho : PE X o (tVar i)) (ha : PA X [a] (LA G qA)) (hbase : attributeBase o "extend" X.env (eval o X.env) = eval o X.env := by rfl)
    (hfew : ((backTo cpos (starEach [a] X.env)).all (fun x => !x.1) && (backToKw cpos (keywordEach [] X.env)).all (fun x => x.1.isSome) && decide (([a] : List Expr).length + ([] : List Keyword).length + (if ([] : List Keyword).isEmpty then 0 else 1) < 30)) = true := by rfl)
    (hline : (apos.endLine == cpos.line) = true := by rfl) (hs : starEach [a] X.env = (false, eval a X.env) :: starEach [] X.env := by rfl) (hplain : (backTo cpos (starEach [] X.env)).any (·.1) = false := by rfl) :
    PE X (.Call (.Attribute o "extend" apos) [a] [] cpos) (LE G (qLm i qA gExtend)) := q_lm l_extend PySem.F.slot_list_extend PySem.F.type_list_extend mt_extendQ ho ha hbase hfew hline hs hplain
def lePV (p q : PV) : Bool := PySem.W.dataLe false PV.toD p q
def sortP (xs : List PV) : List PV := xs.mergeSort lePV
def Sortd (xs : List PV) : Prop := PV.isDs xs = true ∧ PySem.W.AllAlike (xs.map PV.toD) ∧ PySem.W.Sortable (xs.map PV.toD) ∧ ∀ x ∈ xs, (PV.toD x).depth ≤ 50
def gSorted (ps : List PV) (k : QV → Prop) : Prop := match ps with
  | [.lst xs] => Sortd xs ∧ k (.fr (.lst (sortP xs)))
  | [.tup xs] => Sortd xs ∧ k (.fr (.lst (sortP xs)))
  | _ => False
abbrev VP := V × PV
def rSortQ (K : PySem.W.Frag) : List V → Hp → VK → Prop := fun vs H Q => ∃ (a : Addr) (xs : List VP), vs = [V.ref a] ∧ (SqL K H a (xs.map (·.1)) ∨ SqT K H a (xs.map (·.1))) ∧ (∀ x ∈ xs, Dp K H x.1 (PV.toD x.2)) ∧ Sortd (xs.map (·.2)) ∧
  ∀ ys : List VP, ys = xs.mergeSort (PySem.W.dataLe false fun x : VP => PV.toD x.2) → ∀ p, H p = none → Q (.ref p) (L2.upd H p (.lst (ys.map (·.1))))
theorem each_rel : ∀ {xs : List VP} {us : List Value}, Vals (xs.map (·.1)) us → PySem.W.EachIs (fun u (x : VP) => RelV x.1 u) us xs
  | [], _, r => by cases r; exact .nil
  | x :: xs, _, r => by cases r with | cons r0 rt => exact .cons r0 (each_rel rt)
theorem rel_each : ∀ {xs : List VP} {us : List Value}, PySem.W.EachIs (fun u (x : VP) => RelV x.1 u) us xs → Vals (xs.map (·.1)) us
  | _, _, .nil => .nil
  | _, _, .cons h t => .cons h (rel_each t)
theorem each_reads {pins : List (Addr × PySem.Obj)} {σ : L2.St} {H : Hp} {s : Shared} (I : L2.Inv X pins σ H s) : ∀ {xs : List VP} {us : List Value}, Vals (xs.map (·.1)) us → (∀ x ∈ xs, Dp X.K H x.1 (PV.toD x.2)) → PySem.W.EachIs (fun u (x : VP) => ∃ as, Reads s.heap u (PV.toD x.2) as) us xs
  | [], _, r, _ => by cases r; exact .nil
  | x :: xs, _, r, h => by
    cases r with
    | cons r0 rt => exact .cons (Dp.reads I _ _ _ (h x List.mem_cons_self) r0) (each_reads I rt fun y hy => h y (List.mem_cons_of_mem _ hy))
theorem cr_sortQ (hu : X.A.units + 64 < cLine) : CallR X (.builtin "sorted") (rSortQ X.K) := by
  intro pins s σ H vs us Q I r h
  obtain ⟨a, xs, rfl, hA, hd, ⟨_, al, so, dp⟩, k⟩ := h
  rw [Vals.ref1 r]
  rw [List.map_map] at al so
  have fin : ∀ (its : List Value), Vals (xs.map (·.1)) its → (xs.map (·.1)).length ≤ sizeLine → ∀ out : List Value, out.length = xs.length → PySem.W.EachIs (fun u (x : VP) => RelV x.1 u) out (xs.mergeSort (PySem.W.dataLe false fun x : VP => PV.toD x.2)) → EP X pins σ Q (.ref (s.heap.objs.size + 1)) { s with heap := PyProof.Rows.sortedAll s.heap its out.toArray } := fun its rv hz out hl e => by
    obtain ⟨ep, he⟩ := PyProof.Rows.sortedAll_at s.heap its out.toArray
    have r2 := rel_each e
    have len : ((xs.mergeSort (PySem.W.dataLe false fun x : VP => PV.toD x.2)).map (·.1)).length ≤ sizeLine := by rw [r2.length, hl, ← List.length_map (f := (·.1))]; exact hz
    exact ⟨.ref _, L2.upd H (s.heap.objs.size + 1) (.lst ((xs.mergeSort (PySem.W.dataLe false fun x : VP => PV.toD x.2)).map (·.1))), I.laid (t' := s.toks) (fun _ _ => PyProof.Rows.sortedAll_old) (Nat.le_succ _) ⟨len, _, ep, r2, he⟩, rfl, k _ rfl _ (I.hok.fresh (Nat.le_succ _))⟩
  have depth : ∀ b, b ∈ xs → X.A.units + 2 + (PV.toD b.2).depth < cLine := fun b hb => by
    have := dp b.2 (List.mem_map.mpr ⟨b, hb, rfl⟩); omega
  rcases hA with hA | hA
  · obtain ⟨its, rv, pl, hz⟩ := I.list hA
    exact PySem.W.sorted_data (β := VP) (R := fun u x => RelV x.1 u) (enc := fun x => PV.toD x.2) pl.isList (each_rel rv) (each_reads I rv hd) al so (by rw [← List.length_map (f := (·.1))]; exact hz) depth fun out hl e => fin its rv hz out hl e
  · obtain ⟨its, rv, pl, hz⟩ := I.tuple hA
    exact sorted_dataT (β := VP) (R := fun u x => RelV x.1 u) (enc := fun x => PV.toD x.2) pl (each_rel rv) (each_reads I rv hd) al so (by rw [← List.length_map (f := (·.1))]; exact hz) depth fun out hl e => fin its rv hz out hl e
theorem zip_rep {H : Hp} {M : Addr → Prop} : ∀ {vs : List V} {xs : List PV}, RepAll G.toEn H M vs xs → (vs.zip xs).map (·.1) = vs ∧ (vs.zip xs).map (·.2) = xs ∧ ∀ z ∈ vs.zip xs, Rep G.toEn H M z.1 z.2
  | _, _, .nil => ⟨rfl, rfl, fun z h => by simp at h⟩
  | _, _, .cons h t => by
    obtain ⟨q1, q2, q3⟩ := zip_rep t
    refine ⟨by rw [List.zip_cons_cons, List.map_cons, q1], by rw [List.zip_cons_cons, List.map_cons, q2], fun z hz => ?_⟩
    rcases List.mem_cons.mp hz with rfl | hz
    · exact h
    · exact q3 z hz
theorem rep_zip {H : Hp} {M : Addr → Prop} : ∀ {zs : List VP}, (∀ z ∈ zs, Rep G.toEn H M z.1 z.2) → RepAll G.toEn H M (zs.map (·.1)) (zs.map (·.2))
  | [], _ => .nil
  | z :: zs, h => .cons (h z List.mem_cons_self) (rep_zip fun y hy => h y (List.mem_cons_of_mem _ hy))
theorem sort_map (zs : List VP) : (zs.mergeSort (PySem.W.dataLe false fun x : VP => PV.toD x.2)).map (·.2) = sortP (zs.map (·.2)) := by
  unfold sortP
  exact List.map_mergeSort fun a _ b _ => rfl
theorem l_sorted : LiftC G (rSortQ G.K) gSorted := fun e M σ H vs ps Q k S a g f => by
  have go : ∀ {xs : List PV} {b : Addr} {us : List V}, RepAll G.toEn H M us xs → Sortd xs → (SqL G.K H b us ∨ SqT G.K H b us) → k (.fr (.lst (sortP xs))) → rSortQ G.K [.ref b] H Q := fun {xs b us} r1 so sq kk => by
    obtain ⟨q1, q2, q3⟩ := zip_rep r1
    refine ⟨b, us.zip xs, rfl, by rw [q1]; exact sq, fun z hz => ?_, by rw [q2]; exact so, fun ys hy p hp => ?_⟩
    · refine (q3 z hz).dp ?_
      have := so.1
      rw [isDs_all] at this
      exact List.all_eq_true.mp this z.2 (by rw [← q2]; exact List.mem_map.mpr ⟨z, hz, rfl⟩)
    · have perm := List.mergeSort_perm (us.zip xs) (PySem.W.dataLe false fun x : VP => PV.toD x.2)
      rw [← hy] at perm
      have rr : RepAll G.toEn H M (ys.map (·.1)) (ys.map (·.2)) := rep_zip fun z hz => q3 z (perm.mem_iff.mp hz)
      have e2 : ys.map (·.2) = sortP xs := by rw [hy, sort_map, q2]
      rw [e2] at rr
      obtain ⟨S', st, rs⟩ := S.newLst hp rr
      exact f _ kk _ _ _ S' st rs
  unfold gSorted at g
  split at g
  · obtain ⟨v, rfl, b⟩ := acc1 a
    obtain ⟨a1, us, rfl, s1, r1⟩ := b.lst
    exact go r1 g.1 (.inl s1) g.2
  · obtain ⟨v, rfl, b⟩ := acc1 a
    obtain ⟨a1, us, rfl, s1, r1⟩ := b.tup
    exact go r1 g.1 (.inr s1) g.2
  · exact g.elim
def Alk (p q : PV) : Prop := PV.isD p = true ∧ PV.isD q = true ∧ PySem.W.AlikeAll [PV.toD p, PV.toD q] ∧ PyData.depthAll [PV.toD p, PV.toD q] ≤ 50
def gMin2 (ps : List PV) (k : QV → Prop) : Prop := match ps with
  | [.int i, .int j] => k (.sh (.int (if j < i then j else i)))
  | [p, q] => Alk p q ∧ k (.sh (if PySem.W.dataLt (PV.toD q) (PV.toD p) = true then q else p))
  | _ => False
def rMin2Q (K : PySem.W.Frag) : List V → Hp → VK → Prop := fun vs H Q => ∃ v w d e, vs = [v, w] ∧ Dp K H v d ∧ Dp K H w e ∧ PySem.W.AlikeAll [d, e] ∧ PyData.depthAll [d, e] ≤ 50 ∧ Q (if PySem.W.dataLt e d = true then w else v) H
theorem cr_min2Q (hc : X.calm = true) (hu : X.A.units + 64 < cLine) : CallR X (.builtin "min") (rMin2Q X.K) := by
  intro pins s σ H xs us Q I r h
  obtain ⟨v, w, d, e, rfl, hd, he, al, dp, q⟩ := h
  obtain ⟨u1, u2, rfl, r1, r2⟩ := vals2 r
  obtain ⟨as, ra⟩ := Dp.reads I d _ u1 hd r1
  obtain ⟨bs, rb⟩ := Dp.reads I e _ u2 he r2
  refine min2_data (I.ok.hd hc) ra rb al (by omega) fun h' tk kp => ⟨_, H, I.kept (t' := tk) kp, ?_, q⟩
  cases PySem.W.dataLt e d
  · exact r1
  · exact r2
def qCA (g : List PV → (QV → Prop) → Prop) (q : QAs) : QE := fun e Q => q e fun ps e1 => g ps fun r => Q r e1
def LiftA (G : Gh) (r : List V → Hp → VK → Prop) (g : List PV → (QV → Prop) → Prop) : Prop := ∀ (e : PEnv) (M : Addr → Prop) (σ : L2.St) (H : Hp) (vs : List V) (ps : List PV) (Q : VK) (k : QV → Prop),
  StOk G e M σ H → RepAll G.toEn H M vs ps → g ps k → (∀ r, k r → Aft G σ H M Q r e) → r vs H Q
theorem ca_ok {r : List V → Hp → VK → Prop} {g : List PV → (QV → Prop) → Prop} (l : LiftA G r g) {σ : L2.St} {H : Hp} {Q : VK} (h : LE G (qCA g qA) σ H Q) : tCB r (LA G qA) σ H Q := by
  obtain ⟨e, M, K, S, q, f⟩ := h
  exact ⟨e, M, _, S, q, fun ps e1 k vs H1 M1 S1 s1 R => l e1 M1 σ H1 vs ps Q _ S1 R k fun r kr => (f r e1 kr).from s1⟩
theorem rep2 {H : Hp} {M : Addr → Prop} {vs : List V} {x y : PV} (h : RepAll G.toEn H M vs [x, y]) : ∃ v w, vs = [v, w] ∧ Rep G.toEn H M v x ∧ Rep G.toEn H M w y := by
  cases h with
  | cons h t =>
    cases t with
    | cons h2 t => cases t; exact ⟨_, _, rfl, h, h2⟩
theorem l_min2 : LiftA G (fun vs H Q => (∃ i j, vs = [.int i, .int j] ∧ Q (.int (if j < i then j else i)) H) ∨ rMin2Q G.K vs H Q) gMin2 := fun e M σ H vs ps Q k S a g f => by
  unfold gMin2 at g
  split at g
  · obtain ⟨v, w, rfl, h1, h2⟩ := rep2 a
    cases h1; cases h2
    exact .inl ⟨_, _, rfl, aft_sh S (f _ g) (.int _)⟩
  · obtain ⟨v, w, rfl, h1, h2⟩ := rep2 a
    refine .inr ⟨v, w, _, _, rfl, h1.dp g.1.1, h2.dp g.1.2.1, g.1.2.2.1, g.1.2.2.2, aft_sh S (f _ g.2) ?_⟩
    split
    · exact h2
    · exact h1
  · exact g.elim
theorem cr_min2W (g : Good G lv X) : CallR X (.builtin "min") (fun vs H Q => (∃ i j, vs = [.int i, .int j] ∧ Q (.int (if j < i then j else i)) H) ∨ rMin2Q G.K vs H Q) := g.K ▸ CallR.or (call_min2 g.calm) (cr_min2Q g.calm g.units)
theorem q_min2 (g : Good G lv X) (hm : X.mg "min" = none) (ha : PA X (a :: es) (LA G qA)) (hg : Gl X "min" := by rfl) (he : starEach (a :: es) X.env = (false, eval a X.env) :: starEach es X.env := by rfl) (hpl : (backTo pos (starEach es X.env)).any (·.1) = false := by rfl) :
    PE X (.Call (.Name "min" p) (a :: es) [] pos) (LE G (qCA gMin2 qA)) := PE.imp (pe_callB (cr_min2W g) hg hm (by decide +kernel) ha (by decide) (by decide) he hpl) fun _ _ _ => ca_ok l_min2
def intsOf : List PV → Option (List Int)
  | [] => some []
  | .int i :: xs => (intsOf xs).map (i :: ·)
  | _ :: _ => none
theorem intsOf_map (ns : List Int) : intsOf (ns.map PV.int) = some ns := by
  induction ns with
  | nil => rfl
  | cons n ns ih => show (intsOf (ns.map PV.int)).map (n :: ·) = _; rw [ih]; rfl
theorem ints_rep {H : Hp} {M : Addr → Prop} : ∀ {vs : List V} {xs : List PV} {ns : List Int}, RepAll G.toEn H M vs xs → intsOf xs = some ns → vs = ns.map V.int
  | _, [], ns, r, h => by cases h; cases r; rfl
  | _, x :: xs, ns, r, h => by
    cases r with
    | cons r0 rt =>
      cases x with
      | int i =>
        cases r0
        have h : (intsOf xs).map (i :: ·) = some ns := h
        cases c : intsOf xs with
        | none => rw [c] at h; cases h
        | some ms => rw [c] at h; cases h; rw [ints_rep rt c]; rfl
      | _ => cases h
def gSum (ps : List PV) (k : QV → Prop) : Prop := match ps with
  | [.lst xs] => match intsOf xs with
    | some ns => k (.sh (.int ns.sum))
    | none => False
  | _ => False
theorem l_sum : LiftC G (rSum G.K) gSum := fun e M σ H vs ps Q k S a g f => by
  unfold gSum at g
  split at g
  · obtain ⟨v, rfl, b⟩ := acc1 a
    obtain ⟨a1, us, rfl, s1, r1⟩ := b.lst
    split at g
    · rename_i ns hn
      rw [ints_rep r1 hn] at s1
      exact ⟨a1, ns, rfl, s1, aft_sh S (f _ g) (.int _)⟩
    · exact g.elim
  · exact g.elim
theorem q_sum (g : Good G lv X) (hm : X.mg "sum" = none) (ha : PA X (a :: es) (LB G qB)) (hg : Gl X "sum" := by rfl) (he : starEach (a :: es) X.env = (false, eval a X.env) :: starEach es X.env := by rfl) (hpl : (backTo pos (starEach es X.env)).any (·.1) = false := by rfl) :
    PE X (.Call (.Name "sum" p) (a :: es) [] pos) (LE G (qCB gSum qB)) := q_cb (g.K ▸ cr_sum g.calm : CallR X (.builtin "sum") (rSum G.K)) l_sum hg hm (by decide +kernel) ha (by decide) (by decide) he hpl
def gAbs (ps : List PV) (k : QV → Prop) : Prop := match ps with
  | [.int i] => k (.sh (.int (if i < 0 then -i else i)))
  | _ => False
theorem q_abs (hm : X.mg "abs" = none) (ha : PA X (a :: es) (LB G qB)) (hg : Gl X "abs" := by rfl) (he : starEach (a :: es) X.env = (false, eval a X.env) :: starEach es X.env := by rfl) (hpl : (backTo pos (starEach es X.env)).any (·.1) = false := by rfl) :
    PE X (.Call (.Name "abs" p) (a :: es) [] pos) (LE G (qCB gAbs qB)) := q_cb call_abs (fun e M σ H vs ps Q k S a g f => by
      unfold gAbs at g
      split at g
      · obtain ⟨v, rfl, b⟩ := acc1 a
        rw [b.int]
        exact ⟨_, rfl, aft_sh S (f _ g) (.int _)⟩
      · exact g.elim) hg hm (by decide +kernel) ha (by decide) (by decide) he hpl
def blsOf : List PV → Option (List Bool)
  | [] => some []
  | .bl i :: xs => (blsOf xs).map (i :: ·)
  | _ :: _ => none
theorem blsOf_map (ns : List Bool) : blsOf (ns.map PV.bl) = some ns := by
  induction ns with
  | nil => rfl
  | cons n ns ih => show (blsOf (ns.map PV.bl)).map (n :: ·) = _; rw [ih]; rfl
theorem bls_rep {H : Hp} {M : Addr → Prop} : ∀ {vs : List V} {xs : List PV} {ns : List Bool}, RepAll G.toEn H M vs xs → blsOf xs = some ns → vs = ns.map V.bl
  | _, [], ns, r, h => by cases h; cases r; rfl
  | _, x :: xs, ns, r, h => by
    cases r with
    | cons r0 rt =>
      cases x with
      | bl i =>
        cases r0
        have h : (blsOf xs).map (i :: ·) = some ns := h
        cases c : blsOf xs with
        | none => rw [c] at h; cases h
        | some ms => rw [c] at h; cases h; rw [bls_rep rt c]; rfl
      | _ => cases h
def gAllB (f : List Bool → Bool) (ps : List PV) (k : QV → Prop) : Prop := match ps with
  | [.lst xs] => match blsOf xs with
    | some ns => k (.sh (.bl (f ns)))
    | none => False
  | _ => False
theorem l_all : LiftC G (rAll G.K) (gAllB fun ns => ns.all _root_.id) := fun e M σ H vs ps Q k S a g f => by
  unfold gAllB at g
  split at g
  · obtain ⟨v, rfl, b⟩ := acc1 a
    obtain ⟨a1, us, rfl, s1, r1⟩ := b.lst
    split at g
    · rename_i ns hn
      rw [bls_rep r1 hn] at s1
      exact ⟨a1, ns, rfl, s1, aft_sh S (f _ g) (.bl _)⟩
    · exact g.elim
  · exact g.elim
theorem q_all (g : Good G lv X) (hm : X.mg "all" = none) (ha : PA X (a :: es) (LB G qB)) (hg : Gl X "all" := by rfl) (he : starEach (a :: es) X.env = (false, eval a X.env) :: starEach es X.env := by rfl) (hpl : (backTo pos (starEach es X.env)).any (·.1) = false := by rfl) :
    PE X (.Call (.Name "all" p) (a :: es) [] pos) (LE G (qCB (gAllB fun ns => ns.all _root_.id) qB)) := q_cb (g.K ▸ cr_all g.calm : CallR X (.builtin "all") (rAll G.K)) l_all hg hm (by decide +kernel) ha (by decide) (by decide) he hpl
def fieldP (f : Str) : List Str → List PV → Option PV
  | n :: ns, v :: vs => if f = n then some v else fieldP f ns vs
  | _, _ => none
theorem field_rep {H : Hp} {M : Addr → Prop} {f : Str} {x : PV} : ∀ {fs : List (Str × V)} {vs : List PV}, RepAll G.toEn H M (fs.map (·.2)) vs → fieldP f (fs.map (·.1)) vs = some x → ∃ v, fs.lookup f = some v ∧ Rep G.toEn H M v x
  | [], vs, r, h => by cases h
  | (n, w) :: fs, [], r, h => by cases r
  | (n, w) :: fs, y :: vs, r, h => by
    cases r with
    | cons r0 rt =>
      have h : (if f = n then some y else fieldP f (fs.map (·.1)) vs) = some x := h
      rw [List.lookup_cons]
      by_cases c : f = n
      · rw [if_pos c] at h; cases h
        subst c
        exact ⟨w, by simp, r0⟩
      · rw [if_neg c] at h
        obtain ⟨v, h1, h2⟩ := field_rep rt h
        have : (f == n) = false := beq_eq_false_iff_ne.mpr c
        rw [this]
        exact ⟨v, h1, h2⟩
def gFld (C : Addr) (f : Str) (p : PV) (k : QV → Prop) : Prop := match p with
  | .ins D ns vs => D = C ∧ withP (fieldP f ns vs) fun x => k (.sh x)
  | _ => False
theorem q_fld {C : Addr} {f : Str} (g : Good G lv X) (cl : Cls X.K C) (na : NoAttr X.K C f) (ha : PE X a (LE G qa)) (hb : attributeBase a f X.env (eval a X.env) = eval a X.env := by rfl) : PE X (.Attribute a f pos) (LE G (qUn (gFld C f) qa)) :=
  PE.imp (pe_fld ha hb) fun σ H Q ⟨e, M, K, S, q, fin⟩ => ⟨e, M, _, S, q, fun r e1 z v H1 M1 S1 s1 R => by
    obtain ⟨p, a1, z⟩ := withP_of z
    unfold gFld at z
    split at z
    · obtain ⟨ec, z1⟩ := z
      subst ec
      obtain ⟨x, hx, z2⟩ := withP_of z1
      obtain ⟨b, dx, fs, rfl, hb, rfl, rr⟩ := (Res.acc S1 R a1).ins
      obtain ⟨w, h1, h2⟩ := field_rep rr hx
      exact ⟨b, _, dx, fs, w, rfl, hb, cl, na, h1, aft_sh S1 ((fin _ e1 z2).from s1) h2⟩
    · exact z.elim⟩
def tyN : PV → String
  | .non => "NoneType"
  | .bl _ => "bool"
  | .int _ => "int"
  | .str _ => "str"
  | .lst _ => "list"
  | .tup _ => "tuple"
  | .dic _ => "dict"
  | .set _ => "set"
  | _ => ""
def isaB (t n : String) : Bool := t == n || (t == "bool" && n == "int")
theorem isa_ok {t n : String} (ht : t ∈ ["NoneType", "bool", "int", "str", "list", "tuple", "dict"]) (hn : n ∈ ["int", "str", "list", "tuple", "dict", "bool"]) : kitB t n = some (isaB t n) := by
  have all : ∀ t ∈ ["NoneType", "bool", "int", "str", "list", "tuple", "dict"], ∀ n ∈ ["int", "str", "list", "tuple", "dict", "bool"], kitB t n = some (isaB t n) := by decide +kernel
  exact all t ht n hn
def tyOk (p : PV) : Prop := match p with
  | .non => True
  | .bl _ => True
  | .int _ => True
  | .str _ => True
  | .lst _ => True
  | .tup _ => True
  | _ => False
theorem ty_of {H : Hp} {M : Addr → Prop} {v : V} {p : PV} (h : Acc G.toEn H M v p) (t : tyOk p) : TyX G.K H v (.type (tyN p)) ∧ tyN p ∈ ["NoneType", "bool", "int", "str", "list", "tuple", "dict"] := by
  cases p with
  | non => rw [h.non]; exact ⟨.base .non, by simp [tyN]⟩
  | bl b => rw [h.bl]; exact ⟨.base (.bl b), by simp [tyN]⟩
  | int b => rw [h.int]; exact ⟨.base (.int b), by simp [tyN]⟩
  | str b => rw [h.str]; exact ⟨.base (.str b), by simp [tyN]⟩
  | lst xs =>
    obtain ⟨a, vs, rfl, s, _⟩ := h.lst
    refine ⟨?_, by simp [tyN]⟩
    rcases s with (s | ⟨o, s⟩) | ⟨o, its, n, s, c, _⟩
    · exact .base (.lst s)
    · exact .base (.frz s)
    · exact .kList s c
  | tup xs =>
    obtain ⟨a, vs, rfl, s, _⟩ := h.tup
    refine ⟨?_, by simp [tyN]⟩
    rcases s with (s | ⟨o, s⟩) | ⟨o, its, n, s, c, _⟩
    · exact .base (.tup s)
    · exact .fTuple s
    · exact .kTuple s c
  | _ => exact t.elim
def gIsa (ps : List PV) (k : QV → Prop) : Prop := match ps with
  | [p, .ty n] => tyOk p ∧ n ∈ ["int", "str", "list", "tuple", "dict", "bool"] ∧ k (.sh (.bl (isaB (tyN p) n)))
  | [p, .tup [.ty n, .ty m]] => tyOk p ∧ (n ∈ ["int", "str", "list", "tuple", "dict", "bool"] ∧ m ∈ ["int", "str", "list", "tuple", "dict", "bool"]) ∧ k (.sh (.bl (isaB (tyN p) n || isaB (tyN p) m)))
  | _ => False
theorem l_isa : LiftC G (fun xs H Q => rIsi G.K xs H Q ∨ rIsiT G.K xs H Q) gIsa := fun e M σ H vs ps Q k S a g f => by
  unfold gIsa at g
  split at g
  · obtain ⟨v, w, rfl, b, c⟩ := acc2 a
    have ew : ∀ {w : V} {n : String}, Acc G.toEn H M w (.ty n) → w = .ty n := fun {w n} c => by
      rcases c with c | ⟨_, rfl, c⟩
      · cases c; rfl
      · exact c.elim
    rw [ew c]
    obtain ⟨t1, t2⟩ := ty_of b g.1
    exact .inl ⟨v, _, _, _, _, rfl, .ty _, t1, kit_ty (isa_ok t2 g.2.1), aft_sh S (f _ g.2.2) (.bl _)⟩
  · obtain ⟨v, w, rfl, b, c⟩ := acc2 a
    obtain ⟨a1, us, rfl, s1, r1⟩ := c.tupX
    obtain ⟨x, y, rfl, q1, q2⟩ := rep2 r1
    cases q1; cases q2
    have s1 := s1.resolve_right fun z => by obtain ⟨x, e⟩ := z _ List.mem_cons_self; cases e
    obtain ⟨t1, t2⟩ := ty_of b g.1
    have k1 := isa_ok t2 g.2.1.1
    have k2 := isa_ok t2 g.2.1.2
    refine .inr ⟨v, a1, _, _, _, _, rfl, s1, .cons (.ty _) (.cons (.ty _) .nil), t1, ?_, aft_sh S (f _ g.2.2) (.bl _)⟩
    refine kitAny_cons (kit_ty k1) (fun z => ?_) (fun z => by rw [z]; rfl)
    rw [z, Bool.false_or]
    exact kitAny_cons (kit_ty k2) (fun z => by rw [z]; rfl) (fun z => z)
  · exact g.elim
theorem q_isa (g : Good G lv X) (hm : X.mg "isinstance" = none) (ha : PA X (a :: es) (LB G qB)) (hg : Gl X "isinstance" := by rfl) (he : starEach (a :: es) X.env = (false, eval a X.env) :: starEach es X.env := by rfl) (hpl : (backTo pos (starEach es X.env)).any (·.1) = false := by rfl) :
    PE X (.Call (.Name "isinstance" p) (a :: es) [] pos) (LE G (qCB gIsa qB)) := q_cb (g.K ▸ CallR.or call_isi call_isiT : CallR X (.builtin "isinstance") (fun xs H Q => rIsi G.K xs H Q ∨ rIsiT G.K xs H Q)) l_isa hg hm (by decide +kernel) ha (by decide) (by decide) he hpl
theorem q_ty {x : Str} {n : String} (hg : Gl X x) (hm : X.mg x = none) (hv : bootBuiltins x = some (.type n)) (hn : x ≠ "__name__" := by decide) (hd : (x == ("__debug__" : Str)) = false := by decide) : PE X (.Name x pos) (LE G (qC (.ty n))) := PE.imp (pe_bltn (v := .ty n) hg hm hv rfl hn hd) fun _ _ _ h => c_ok (fun _ _ => .ty n) h
end
end CP
namespace CP
open PySem PySem.Spec PyProof.Rows L2
mutual
inductive KH (H : Hp) : V → NestedKey → Prop
  | non : KH H .non .none
  | bl (b : Bool) : KH H (.bl b) (.num (if b = true then 1 else 0))
  | int (i : Int) : KH H (.int i) (.num i)
  | str (x : Str) : KH H (.str x) (.text x)
  | tup {a : Addr} {vs : List V} {ks : List NestedKey} : Rd H a (.tup vs) → KHs H vs ks → KH H (.ref a) (.tup ks)
inductive KHs (H : Hp) : List V → List NestedKey → Prop
  | nil : KHs H [] []
  | cons {v : V} {vs : List V} {k : NestedKey} {ks : List NestedKey} : KH H v k → KHs H vs ks → KHs H (v :: vs) (k :: ks)
end
section
variable {G : En} {H : Hp} {M : Addr → Prop}
mutual
theorem Rep.kh : ∀ {v : V} {p : PV}, Rep G H M v p → PV.kOk p = true → KH H v (PV.nk p)
  | _, _, .non, _ => .non
  | _, _, .bl b, _ => .bl b
  | _, _, .int i, _ => .int i
  | _, _, .str x, _ => .str x
  | _, _, .tup s r, h => .tup s.rd (RepAll.khs r h)
  | _, _, .ty _, h => by cases h
  | _, _, .cls _, h => by cases h
  | _, _, .scr _ _, h => by cases h
  | _, _, .lst _ _, h => by cases h
  | _, _, .dicK _ _ _ _, h => by cases h
  | _, _, .dicG _ _ _ _ _ _, h => by cases h
  | _, _, .ins _ _ _ _ _, h => by cases h
theorem RepAll.khs : ∀ {vs : List V} {xs : List PV}, RepAll G H M vs xs → PV.kOks xs = true → KHs H vs (PV.nks xs)
  | _, _, .nil, _ => .nil
  | _, _, .cons h r, k => .cons (Rep.kh h (Bool.and_eq_true_iff.mp k).1) (RepAll.khs r (Bool.and_eq_true_iff.mp k).2)
end
end
section
variable {X : Cx} {pins : List (Addr × PySem.Obj)} {σ : L2.St} {H : Hp} {s : Shared}
mutual
theorem KH.is (I : L2.Inv X pins σ H s) : ∀ {v : V} {k : NestedKey} {u : Value}, KH H v k → RelV v u → NestedIs s.heap k u
  | _, _, _, .non, r => by cases r; exact .none
  | _, _, _, .bl b, r => by cases r; exact .bool rfl
  | _, _, _, .int i, r => by obtain ⟨t, rfl⟩ := r; exact .int _ _
  | _, _, _, .str x, r => by obtain ⟨t, rfl⟩ := r; exact .text _ _
  | _, _, _, .tup h ks, r => by
    cases r
    obtain ⟨its, rv, ⟨o, ho, hc, n, hd⟩, _⟩ := I.tuple (.inl h)
    exact .tup ho hc hd (by simpa using KHs.is I ks rv)
theorem KHs.is (I : L2.Inv X pins σ H s) : ∀ {vs : List V} {ks : List NestedKey} {us : List Value}, KHs H vs ks → Vals vs us → NestedAll s.heap ks us
  | _, _, _, .nil, r => by cases r; exact .nil
  | _, _, _, .cons h t, r => by
    cases r with
    | cons r0 rt => exact .cons (KH.is I h r0) (KHs.is I t rt)
end
end
def valG (c : CnG) (k : NestedKey) : Option V := (c.find? fun x => decide (x.1 = k)).map (·.2.2)
def putG (c : CnG) (k : NestedKey) (b : Addr) (v : V) : CnG := if (valG c k).isSome = true then c.map (fun x => if x.1 = k then (x.1, x.2.1, v) else x) else c ++ [(k, b, v)]
def delG (c : CnG) (k : NestedKey) : CnG := c.filter fun x => decide (x.1 ≠ k)
theorem valG_cons (x : NestedKey × Addr × V) (c : CnG) (k : NestedKey) : valG (x :: c) k = if x.1 = k then some x.2.2 else valG c k := by
  unfold valG
  by_cases h : x.1 = k <;> simp [List.find?_cons, h]
theorem likeG_at {k : NestedKey} : ∀ {c : CnG} {us : List (NestedKey × Addr × Value)}, Paired LikeG c us → (valG c k = none ∧ atKey us k = none) ∨ ∃ v p, valG c k = some v ∧ atKey us k = some p ∧ RelV v p.2
  | _, _, .nil => .inl ⟨rfl, rfl⟩
  | _, _, .cons (a := x) (b := u) (l₂ := us) h t => by
    rw [valG_cons]
    have e : atKey (u :: us) k = if u.1 = k then some u.2 else atKey us k := by
      unfold atKey
      by_cases q : u.1 = k <;> simp [List.find?_cons, q]
    rw [e, h.1]
    by_cases q : x.1 = k
    · rw [if_pos q, if_pos q]; exact .inr ⟨_, _, rfl, rfl, h.2.2⟩
    · rw [if_neg q, if_neg q]; exact likeG_at t
theorem likeG_map {k : NestedKey} {v : V} {u : Value} (rv : RelV v u) : ∀ {c : CnG} {us : List (NestedKey × Addr × Value)}, Paired LikeG c us → Paired LikeG (c.map fun x => if x.1 = k then (x.1, x.2.1, v) else x) (us.map (putAt k u))
  | _, _, .nil => .nil
  | _, _, .cons (a := x) (b := y) h t => by
    refine .cons ?_ (likeG_map rv t)
    show LikeG (if x.1 = k then (x.1, x.2.1, v) else x) (if y.1 = k then (y.1, y.2.1, u) else y)
    rw [h.1]
    by_cases q : x.1 = k
    · rw [if_pos q, if_pos q]; exact ⟨rfl, h.2.1, rv⟩
    · rw [if_neg q, if_neg q]; exact h
theorem likeG_put {k : NestedKey} {b : Addr} {v : V} {u : Value} (rv : RelV v u) {c : CnG} {us : List (NestedKey × Addr × Value)} (h : Paired LikeG c us) : Paired LikeG (putG c k b v) (storedH us k b u) := by
  unfold putG
  rcases likeG_at (k := k) h with ⟨e1, e2⟩ | ⟨v0, p, e1, e2, _⟩
  · rw [e1, storedH_new e2, if_neg (by decide)]
    exact h.snoc ⟨rfl, rfl, rv⟩
  · rw [e1, storedH_old e2, if_pos (by rfl)]
    exact likeG_map rv h
theorem likeG_del {k : NestedKey} : ∀ {c : CnG} {us : List (NestedKey × Addr × Value)}, Paired LikeG c us → Paired LikeG (delG c k) (withoutH us k)
  | _, _, .nil => .nil
  | _, _, .cons (a := x) (b := y) h t => by
    have ih := likeG_del (k := k) t
    unfold delG withoutH at ih ⊢
    rw [List.filter_cons, List.filter_cons, h.1]
    by_cases q : x.1 = k
    · rw [if_neg (by simp [q]), if_neg (by simp [q])]; exact ih
    · rw [if_pos (by simp [q]), if_pos (by simp [q])]; exact .cons h ih
def DKv (P : Program) (w : World) (H : Hp) (d : Addr) (kvs : List (Key × V)) : Prop := Rd H d (.dK kvs) ∨ (kvs = [] ∧ Rd H d (DctG P w d []))
def KeysG (H : Hp) (c : CnG) : Prop := ∀ x ∈ c, KH H (.ref x.2.1) x.1 ∧ x.1.depth ≤ 8
def DGv (P : Program) (w : World) (H : Hp) (d : Addr) (c : CnG) : Prop := (Rd H d (DctG P w d c) ∧ KeysG H c) ∨ (c = [] ∧ Rd H d (.dK []))
section
variable {X : Cx} {pins : List (Addr × PySem.Obj)} {σ : L2.St} {H : Hp} {s : Shared}
theorem dkv_get {d : Addr} {kvs : List (Key × V)} (I : L2.Inv X pins σ H s) (h : DKv X.prog X.w H d kvs) : kvs.length ≤ sizeLine ∧ (d == sysModules) = false ∧ ∃ vs, KV kvs vs ∧ s.heap.DictOf (mixKind X.prog X.w) d vs := by
  rcases h with h | ⟨rfl, h⟩
  · exact dk_rd I.hok h
  · obtain ⟨⟨sy, o, es, ep, us, h1, h2, h3, h4, h5, h6⟩, _⟩ := h.ok I.hok
    have e0 : es = #[] := by
      cases h6
      exact Array.toList_eq_nil_iff.mp h4
    subst e0
    exact ⟨Nat.zero_le _, sy, [], .nil, o, _, ep, h1, h2, h3, (fun e he => by simp at he), .nil, List.nodup_nil⟩
theorem dgv_get {d : Addr} {c : CnG} (I : L2.Inv X pins σ H s) (h : DGv X.prog X.w H d c) : (d == sysModules) = false ∧ ∃ us, s.heap.DictOfH (nestedKind X.prog X.w) d us ∧ Paired LikeG c us := by
  rcases h with ⟨h, hk⟩ | ⟨rfl, h⟩
  · obtain ⟨⟨sy, o, es, ep, us, h1, h2, h3, h4, h5, h6⟩, _⟩ := h.ok I.hok
    have all : ∀ {c : CnG} {us : List (NestedKey × Addr × Value)}, Paired LikeG c us → KeysG H c → ∀ u ∈ us, (nestedKind X.prog X.w).is s.heap u.1 u.2.1 := by
      intro c us p
      induction p with
      | nil => intro _ u hu; cases hu
      | @cons x u xs us l _ ih =>
        intro h y hy
        rcases List.mem_cons.mp hy with rfl | hy
        · obtain ⟨q, qd⟩ := h x List.mem_cons_self
          rw [l.1, l.2.1]
          exact ⟨q.is I rfl, qd⟩
        · exact ih (fun z hz => h z (List.mem_cons_of_mem _ hz)) y hy
    exact ⟨sy, us, ⟨o, es, ep, h1, h2, h3, h4, all h6 hk, h5⟩, h6⟩
  · obtain ⟨_, sy, vs, kv, o, es, ep, h1, h2, h3, h4, h5, h6⟩ := dk_rd I.hok h
    cases kv
    have e0 : es = #[] := by
      generalize hl : es.toList = l at h5
      cases h5
      exact Array.toList_eq_nil_iff.mp hl
    subst e0
    exact ⟨sy, [], ⟨o, _, ep, h1, h2, h3, rfl, fun y hy => (nomatch hy), List.nodup_nil⟩, .nil⟩
def rGetD (P : Program) (w : World) : R2 := fun x y H Q => ∃ d, x = V.ref d ∧ ((∃ kvs k v, DKv P w H d kvs ∧ y = kV k ∧ valV kvs k = some v ∧ Q v H) ∨ ∃ c b k v, DGv P w H d c ∧ y = V.ref b ∧ KH H y k ∧ k.depth ≤ 8 ∧ valG c k = some v ∧ Q v H)
def rInD (P : Program) (w : World) (f : Bool → Bool) : R2 := fun y x H Q => ∃ d, x = V.ref d ∧ ((∃ kvs k, DKv P w H d kvs ∧ y = kV k ∧ Q (.bl (f (valV kvs k).isSome)) H) ∨ ∃ c b k, DGv P w H d c ∧ y = V.ref b ∧ KH H y k ∧ k.depth ≤ 8 ∧ Q (.bl (f (valG c k).isSome)) H)
theorem ix_D (hu : X.A.units + 64 < cLine) : IxR X (rGetD X.prog X.w) := by
  intro value slice pins s σ H x y v u Q I rx ry h hs
  obtain ⟨d, rfl, h⟩ := h
  cases rx
  rcases h with ⟨kvs, k, z, hd, rfl, e, q⟩ | ⟨c, b, k, z, hd, rfl, hk, dp, e, q⟩
  · obtain ⟨_, sy, vs, rel, dd⟩ := dkv_get I hd
    obtain ⟨w', hw, rw'⟩ := RelO.some_of (v := z) (o := valueAt vs k) (by rw [← e]; exact rel.val k)
    exact tail_any dd.typeIs slot_dict_getitem.lookup (wpAny_getItem_of (kV_is ry) dd.mapOf hw ⟨z, H, I.tok _, rw', q⟩) hs
  · obtain ⟨sy, us, dd, rel⟩ := dgv_get I hd
    cases ry
    rcases likeG_at (k := k) rel with ⟨e1, _⟩ | ⟨v0, p, e1, e2, rv⟩
    · rw [e] at e1; cases e1
    · rw [e] at e1; cases e1
      exact tail_any dd.typeIs slot_dict_getitem.lookup (wpAny_getItem_heap (knd := nestedKind X.prog X.w) (by show _ + 8 < cLine; simp; omega) ⟨hk.is I rfl, dp⟩ dd e2 ⟨z, H, I.tok _, rv, q⟩) hs
theorem op_inD (hu : X.A.units + 64 < cLine) : OpR X (compareOp .In) (rInD X.prog X.w fun b => b) := by
  intro pins s σ H y x v u Q I ry rx h
  obtain ⟨d, rfl, h⟩ := h
  cases rx
  rcases h with ⟨kvs, k, hd, rfl, q⟩ | ⟨c, b, k, hd, rfl, hk, dp, q⟩
  · obtain ⟨_, sy, vs, rel, dd⟩ := dkv_get I hd
    refine wpAny_in_of (kV_is ry) sy dd.mapOf ?_
    rw [← (rel.val k).isSome_eq]
    exact ⟨.bl _, H, I.tok _, rfl, q⟩
  · obtain ⟨sy, us, dd, rel⟩ := dgv_get I hd
    cases ry
    refine wpAny_in_heap (knd := nestedKind X.prog X.w) (by show _ + 8 < cLine; simp; omega) ⟨hk.is I rfl, dp⟩ sy dd ⟨.bl _, H, I.tok _, ?_, q⟩
    rcases likeG_at (k := k) rel with ⟨e1, e2⟩ | ⟨v0, p, e1, e2, rv⟩ <;> (rw [e1, e2]; rfl)
theorem op_notInD (hu : X.A.units + 64 < cLine) : OpR X (compareOp .NotIn) (rInD X.prog X.w fun b => !b) := by
  intro pins s σ H y x v u Q I ry rx h
  obtain ⟨d, rfl, h⟩ := h
  cases rx
  rcases h with ⟨kvs, k, hd, rfl, q⟩ | ⟨c, b, k, hd, rfl, hk, dp, q⟩
  · obtain ⟨_, sy, vs, rel, dd⟩ := dkv_get I hd
    refine wpAny_notIn_of (kV_is ry) sy dd.mapOf ?_
    rw [← (rel.val k).isSome_eq]
    exact ⟨.bl _, H, I.tok _, rfl, q⟩
  · obtain ⟨sy, us, dd, rel⟩ := dgv_get I hd
    cases ry
    refine wpAny_notIn_heap (knd := nestedKind X.prog X.w) (by show _ + 8 < cLine; simp; omega) ⟨hk.is I rfl, dp⟩ sy dd ⟨.bl _, H, I.tok _, ?_, q⟩
    rcases likeG_at (k := k) rel with ⟨e1, e2⟩ | ⟨v0, p, e1, e2, rv⟩ <;> (rw [e1, e2]; rfl)
def rPutD (P : Program) (w : World) : TSet := fun o i v H Q => ∃ d, o = V.ref d ∧ ((∃ kvs k, (H d = some (.dK kvs) ∨ (kvs = [] ∧ H d = some (DctG P w d []))) ∧ i = kV k ∧ kvs.length < sizeLine ∧ Q (L2.upd H d (.dK (putK kvs k v)))) ∨
  ∃ c b k, ((H d = some (DctG P w d c) ∧ KeysG H c) ∨ (c = [] ∧ H d = some (.dK []))) ∧ i = V.ref b ∧ KH H i k ∧ k.depth ≤ 8 ∧ c.length < sizeLine ∧ Q (L2.upd H d (DctG P w d (putG c k b v))))
theorem dctGI_of {P : Program} {w : World} {d : Addr} {c : CnG} {us : List (NestedKey × Addr × Value)} {h' : Heap} (sy : (d == sysModules) = false) (D : h'.DictOfH (nestedKind P w) d us) (l : Paired LikeG c us) : DctGI P w d c h' := by
  obtain ⟨o', es', ep', g1, g2, g3, g4, _, g6⟩ := D
  exact ⟨sy, o', es', ep', _, g1, g2, g3, g4, g6, l⟩
theorem set_D (hu : X.A.units + 64 < cLine) : PSet X (rPutD X.prog X.w) := by
  intro pins s σ H o i v ov iv u Q I ro ri rv h
  obtain ⟨d, rfl, h⟩ := h
  cases ro
  rcases h with ⟨kvs, k, hd, rfl, few, q⟩ | ⟨c, b, k, hd, rfl, hk, dp, few, q⟩
  · have hm : Mut (H d) := by rcases hd with hd | ⟨_, hd⟩ <;> (rw [hd]; exact True.intro)
    obtain ⟨_, sy, vs, rel, dd⟩ := dkv_get I (hd.imp Rd.of fun z => ⟨z.1, Rd.of z.2⟩)
    have hz : vs.length ≤ sizeLine := by rw [← rel.length]; omega
    have hl : (putK kvs k v).length ≤ sizeLine := by have := length_putK kvs k v; omega
    refine wpAny_setItem_pairs (hsz := hz) (kV_is ri) dd fun h' dd' hs => ⟨_, ?_, q⟩
    have he : ∃ q, h'.get? d = some q := let ⟨q, _, _, hq, _⟩ := dd'; ⟨q, hq⟩
    exact d_write I hm hs he (dk_new hl sy (rel.put k rv) dd')
  · have hm : Mut (H d) := by rcases hd with ⟨hd, _⟩ | ⟨_, hd⟩ <;> (rw [hd]; exact True.intro)
    obtain ⟨sy, us, dd, rel⟩ := dgv_get I (hd.imp (fun z => ⟨Rd.of z.1, z.2⟩) fun z => ⟨z.1, Rd.of z.2⟩)
    cases ri
    have le := Paired.length rel
    refine wpAny_setItem_heap (knd := nestedKind X.prog X.w) (hsz := by omega) (by show _ + 8 < cLine; simp; omega) ⟨hk.is I rfl, dp⟩ dd fun h' D' sb => ⟨_, ?_, q⟩
    have he : ∃ q, h'.get? d = some q := let ⟨q, _, _, hq, _⟩ := D'; ⟨q, hq⟩
    exact d_write I hm sb he (dctG_ok (dctGI_of sy D' (likeG_put rv rel)))
def rPopD (P : Program) (w : World) : V → List V → Hp → VK → Prop := fun x vs H Q => ∃ d, x = V.ref d ∧ ((∃ kvs k v, H d = some (.dK kvs) ∧ vs = [kV k] ∧ valV kvs k = some v ∧ Q v (L2.upd H d (.dK (dropK kvs k)))) ∨
  ∃ c b k v, H d = some (DctG P w d c) ∧ KeysG H c ∧ vs = [V.ref b] ∧ KH H (.ref b) k ∧ k.depth ≤ 8 ∧ c.length ≤ sizeLine ∧ valG c k = some v ∧ Q v (L2.upd H d (DctG P w d (delG c k))))
theorem mt_popD (hu : X.A.units + 64 < cLine) : MtR X "dict.pop" (rPopD X.prog X.w) := by
  intro pins s σ H x vs v us Q I rx rv h
  obtain ⟨d, rfl, h⟩ := h
  cases rx
  rcases h with ⟨kvs, k, z, hd, rfl, e, q⟩ | ⟨c, b, k, z, hd, hks, rfl, hk, dp, few, e, q⟩
  · obtain ⟨u, rfl, ru⟩ := rv.one
    exact d_pop I hd ru e (.inl rfl) fun w' s' I' r' => ⟨z, _, I', r', q⟩
  · obtain ⟨u, rfl, ru⟩ := rv.one
    cases ru
    obtain ⟨sy, us, dd, rel⟩ := dgv_get I (.inl ⟨Rd.of hd, hks⟩)
    have le := Paired.length rel
    rcases likeG_at (k := k) rel with ⟨e1, _⟩ | ⟨v0, p, e1, e2, rv⟩
    · rw [e] at e1; cases e1
    · rw [e] at e1; cases e1
      refine call_pop_heap (knd := nestedKind X.prog X.w) (hsz := by omega) (.inl rfl) (PySem.F.args_dict_pop_2 _ _) (by show _ + 8 < cLine; simp; omega) ⟨hk.is I rfl, dp⟩ sy dd e2 fun h' D' sb => ⟨z, _, ?_, rv, q⟩
      have he : ∃ q, h'.get? d = some q := let ⟨q, _, _, hq, _⟩ := D'; ⟨q, hq⟩
      exact d_write I (by rw [hd]; exact True.intro) sb he (dctG_ok (dctGI_of sy D' (likeG_del rel)))
def rLenD (P : Program) (w : World) : List V → Hp → VK → Prop := fun vs H Q => ∃ d, vs = [V.ref d] ∧ ((∃ kvs, Rd H d (.dK kvs) ∧ Q (.int kvs.length) H) ∨ ∃ c, Rd H d (DctG P w d c) ∧ KeysG H c ∧ c.length ≤ sizeLine ∧ Q (.int c.length) H)
end
end CP
namespace CP
open PySem PySem.Spec PyProof.Rows L2
def pget (ps : List (PV × PV)) (k : PV) : Option PV := (ps.find? fun p => decide (PV.nk p.1 = PV.nk k)).map (·.2)
def pput (ps : List (PV × PV)) (k x : PV) : List (PV × PV) := if (pget ps k).isSome = true then ps.map (fun p => if PV.nk p.1 = PV.nk k then (p.1, x) else p) else ps ++ [(k, x)]
def pdel (ps : List (PV × PV)) (k : PV) : List (PV × PV) := ps.filter fun p => decide (PV.nk p.1 ≠ PV.nk k)
theorem pget_cons (p : PV × PV) (ps : List (PV × PV)) (k : PV) : pget (p :: ps) k = if PV.nk p.1 = PV.nk k then some p.2 else pget ps k := by
  unfold pget
  by_cases h : PV.nk p.1 = PV.nk k <;> simp [List.find?_cons, h]
def isT : PV → Bool
  | .tup _ => true
  | _ => false
def keyA : PV → Bool
  | .int _ => true
  | .str _ => true
  | p => PV.keyB p
def famB (ps : List (PV × PV)) (k : PV) : Bool := ps.all fun q => isT q.1 == isT k
theorem keyB_tup {p : PV} (h : PV.keyB p = true) : (∃ xs, p = .tup xs) ∧ PV.kOk p = true ∧ (PV.nk p).depth ≤ 8 := by
  unfold PV.keyB at h
  rw [Bool.and_eq_true_iff, Bool.and_eq_true_iff] at h
  obtain ⟨⟨h1, h2⟩, h3⟩ := h
  refine ⟨?_, h1, of_decide_eq_true h2⟩
  split at h3
  · exact ⟨_, rfl⟩
  · cases h3
theorem keyA_cases {p : PV} (h : keyA p = true) : (∃ k : Key, p = keyP k ∧ isT p = false) ∨ (PV.keyB p = true ∧ isT p = true) := by
  cases p with
  | int i => exact .inl ⟨.inl i, rfl, rfl⟩
  | str x => exact .inl ⟨.inr x, rfl, rfl⟩
  | tup xs => exact .inr ⟨h, rfl⟩
  | _ => exact absurd (keyB_tup h).1 (by rintro ⟨xs, z⟩; cases z)
theorem nk_keyP {k j : Key} (h : PV.nk (keyP k) = PV.nk (keyP j)) : k = j := by
  cases k <;> cases j <;> simp [keyP, PV.nk] at h <;> rw [h]
section
variable {G : En} {H H' : Hp} {M M' : Addr → Prop} {d : Addr} {ps : List (PV × PV)}
def DView (G : En) (H : Hp) (M : Addr → Prop) (d : Addr) (ps : List (PV × PV)) : Prop :=
  (∃ kvs : List (Key × V), Rd H d (.dK kvs) ∧ ps.map (·.1) = kvs.map (fun p => keyP p.1) ∧ RepAll G H M (kvs.map (·.2)) (ps.map (·.2))) ∨
  ∃ c, Rd H d (DctG G.P G.w d c) ∧ RepAll G H M (c.map fun x => .ref x.2.1) (ps.map (·.1)) ∧ (ps.all fun p => PV.keyB p.1) = true ∧ c.map (·.1) = ps.map (fun p => PV.nk p.1) ∧ RepAll G H M (c.map (·.2.2)) (ps.map (·.2))
theorem Acc.dic {v : V} (h : Acc G H M v (.dic ps)) : ∃ d, v = .ref d ∧ DView G H M d ps := by
  rcases h with h | ⟨a, rfl, h⟩
  · cases h with
    | dicK e n k r => exact ⟨_, rfl, .inl ⟨_, .inr ⟨_, e⟩, k, r⟩⟩
    | dicG e n k o q r => exact ⟨_, rfl, .inr ⟨_, .inr ⟨_, e⟩, k, o, q, r⟩⟩
  · rcases h with ⟨kvs, h1, h2, h3⟩ | ⟨c, h1, h2, h3, h4, h5⟩
    · exact ⟨a, rfl, .inl ⟨kvs, .inl h1, h2, h3⟩⟩
    · exact ⟨a, rfl, .inr ⟨c, .inl h1, h2, h3, h4, h5⟩⟩
theorem keys_of : ∀ {c : CnG} {ps : List (PV × PV)}, RepAll G H M (c.map fun x => .ref x.2.1) (ps.map (·.1)) → (ps.all fun p => PV.keyB p.1) = true → c.map (·.1) = ps.map (fun p => PV.nk p.1) → KeysG H c
  | [], _, _, _, _ => fun x hx => (nomatch hx)
  | x :: c, [], r, _, _ => by cases r
  | x :: c, p :: ps, r, o, e => by
    rw [List.map_cons, List.map_cons] at r e
    cases r with
    | cons r0 rt =>
      rw [List.all_cons, Bool.and_eq_true_iff] at o
      obtain ⟨e1, e2⟩ := List.cons.inj e
      intro y hy
      rcases List.mem_cons.mp hy with rfl | hy
      · obtain ⟨_, k1, k2⟩ := keyB_tup o.1
        rw [e1]
        exact ⟨r0.kh k1, k2⟩
      · exact keys_of rt o.2 e2 y hy
theorem DView.k (h : DView G H M d ps) (nt : ∀ q ∈ ps, isT q.1 = false) : ∃ kvs : List (Key × V), DKv G.P G.w H d kvs ∧ ps.map (·.1) = kvs.map (fun p => keyP p.1) ∧ RepAll G H M (kvs.map (·.2)) (ps.map (·.2)) := by
  rcases h with ⟨kvs, h1, h2, h3⟩ | ⟨c, h1, h2, h3, h4, h5⟩
  · exact ⟨kvs, .inl h1, h2, h3⟩
  · cases ps with
    | nil =>
      have : c = [] := List.map_eq_nil_iff.mp (by rw [h4]; rfl)
      subst this
      exact ⟨[], .inr ⟨rfl, h1⟩, rfl, .nil⟩
    | cons p ps =>
      have q := nt p List.mem_cons_self
      rw [List.all_cons, Bool.and_eq_true_iff] at h3
      obtain ⟨⟨xs, e⟩, _⟩ := keyB_tup h3.1
      rw [e] at q; cases q
theorem DView.g (h : DView G H M d ps) (tt : ∀ q ∈ ps, isT q.1 = true) : ∃ c, DGv G.P G.w H d c ∧ RepAll G H M (c.map fun x => .ref x.2.1) (ps.map (·.1)) ∧ (ps.all fun p => PV.keyB p.1) = true ∧ c.map (·.1) = ps.map (fun p => PV.nk p.1) ∧ RepAll G H M (c.map (·.2.2)) (ps.map (·.2)) := by
  rcases h with ⟨kvs, h1, h2, h3⟩ | ⟨c, h1, h2, h3, h4, h5⟩
  · cases ps with
    | nil =>
      have : kvs = [] := List.map_eq_nil_iff.mp (by rw [← h2]; rfl)
      subst this
      exact ⟨[], .inr ⟨rfl, h1⟩, .nil, rfl, rfl, .nil⟩
    | cons p ps =>
      cases kvs with
      | nil => cases h2
      | cons kv kvs =>
        have q := tt p List.mem_cons_self
        have e1 : p.1 = keyP kv.1 := (List.cons.inj h2).1
        rw [e1] at q
        cases hk : kv.1 <;> (rw [hk] at q; cases q)
  · exact ⟨c, .inl ⟨h1, keys_of h2 h3 h4⟩, h2, h3, h4, h5⟩
theorem look_k (k : Key) : ∀ {kvs : List (Key × V)} {ps : List (PV × PV)}, ps.map (·.1) = kvs.map (fun p => keyP p.1) → RepAll G H M (kvs.map (·.2)) (ps.map (·.2)) → (valV kvs k = none ∧ pget ps (keyP k) = none) ∨ ∃ v x, valV kvs k = some v ∧ pget ps (keyP k) = some x ∧ Rep G H M v x
  | [], [], _, _ => .inl ⟨rfl, rfl⟩
  | [], p :: ps, e, _ => by cases e
  | kv :: kvs, [], e, _ => by cases e
  | kv :: kvs, p :: ps, e, r => by
    cases r with
    | cons r0 rt =>
      obtain ⟨e1, e2⟩ := List.cons.inj e
      rw [pget_cons, show p.1 = keyP kv.1 from e1]
      by_cases c : kv.1 = k
      · subst c
        rw [if_pos rfl, valV_pos rfl]
        exact .inr ⟨_, _, rfl, rfl, r0⟩
      · rw [if_neg (fun z => c (nk_keyP z)), valV_neg c]
        exact look_k k e2 rt
theorem look_g (k : PV) : ∀ {c : CnG} {ps : List (PV × PV)}, c.map (·.1) = ps.map (fun p => PV.nk p.1) → RepAll G H M (c.map (·.2.2)) (ps.map (·.2)) → (valG c (PV.nk k) = none ∧ pget ps k = none) ∨ ∃ v x, valG c (PV.nk k) = some v ∧ pget ps k = some x ∧ Rep G H M v x
  | [], [], _, _ => .inl ⟨rfl, rfl⟩
  | [], p :: ps, e, _ => by cases e
  | kv :: kvs, [], e, _ => by cases e
  | kv :: kvs, p :: ps, e, r => by
    cases r with
    | cons r0 rt =>
      obtain ⟨e1, e2⟩ := List.cons.inj e
      rw [pget_cons, valG_cons, show kv.1 = PV.nk p.1 from e1]
      by_cases c : PV.nk p.1 = PV.nk k
      · rw [if_pos c, if_pos c]
        exact .inr ⟨_, _, rfl, rfl, r0⟩
      · rw [if_neg c, if_neg c]
        exact look_g k e2 rt
theorem rep_keyP {v : V} {k : Key} (r : Rep G H M v (keyP k)) : v = kV k := by
  cases k <;> cases r <;> rfl
theorem rep_keyB {v : V} {p : PV} (r : Rep G H M v p) (h : PV.keyB p = true) : ∃ b, v = .ref b ∧ KH H v (PV.nk p) ∧ (PV.nk p).depth ≤ 8 := by
  obtain ⟨⟨xs, rfl⟩, h1, h2⟩ := keyB_tup h
  cases r with
  | tup s r => exact ⟨_, rfl, (Rep.tup s r).kh h1, h2⟩
theorem famK {k : Key} (h : famB ps (keyP k) = true) : ∀ q ∈ ps, isT q.1 = false := fun q hq => by
  have := List.all_eq_true.mp h q hq
  rw [beq_iff_eq.mp this]; cases k <;> rfl
theorem famG {p : PV} (h : famB ps p = true) (t : isT p = true) : ∀ q ∈ ps, isT q.1 = true := fun q hq => by
  have := List.all_eq_true.mp h q hq
  rw [beq_iff_eq.mp this]; exact t
theorem Acc.key {v : V} {p : PV} (h : Acc G H M v p) (a : keyA p = true) : Rep G H M v p := by
  rcases h with h | ⟨_, rfl, h⟩
  · exact h
  · rcases keyA_cases a with ⟨k, rfl, _⟩ | ⟨b, _⟩
    · cases k <;> exact h.elim
    · obtain ⟨⟨xs, rfl⟩, _⟩ := keyB_tup b
      exact h.elim
theorem put_k {k : Key} {v : V} {x : PV} (rv : Rep G H M v x) : ∀ {kvs : List (Key × V)} {ps : List (PV × PV)}, ps.map (·.1) = kvs.map (fun p => keyP p.1) → RepAll G H M (kvs.map (·.2)) (ps.map (·.2)) →
    (pput ps (keyP k) x).map (·.1) = (putK kvs k v).map (fun p => keyP p.1) ∧ RepAll G H M ((putK kvs k v).map (·.2)) ((pput ps (keyP k) x).map (·.2)) := by
  intro kvs ps e r
  have hs : (pget ps (keyP k)).isSome = (valV kvs k).isSome := by
    rcases look_k k e r with ⟨a, b⟩ | ⟨v0, x0, a, b, _⟩ <;> (rw [a, b]; rfl)
  unfold pput putK
  rw [hs, valV_any]
  cases c : (valV kvs k).isSome with
  | false =>
    rw [if_neg (by decide), if_neg (by decide)]
    refine ⟨by rw [List.map_append, List.map_append, e]; rfl, ?_⟩
    rw [List.map_append, List.map_append]
    exact r.append (.cons rv .nil)
  | true =>
    rw [if_pos rfl, if_pos rfl]
    clear hs c
    induction kvs generalizing ps with
    | nil => cases ps with
      | nil => exact ⟨rfl, .nil⟩
      | cons p ps => cases e
    | cons kv kvs ih => cases ps with
      | nil => cases e
      | cons p ps =>
        cases r with
        | cons r0 rt =>
          obtain ⟨e1, e2⟩ := List.cons.inj e
          obtain ⟨h1, h2⟩ := ih e2 rt
          rw [List.map_cons, List.map_cons, List.map_cons, List.map_cons, List.map_cons, List.map_cons, show p.1 = keyP kv.1 from e1]
          by_cases c : kv.1 = k
          · subst c
            rw [if_pos rfl, if_pos rfl]
            exact ⟨by rw [h1], .cons rv h2⟩
          · rw [if_neg (fun z => c (nk_keyP z)), if_neg c]
            exact ⟨by rw [h1]; exact congrArg (· :: _) e1, .cons r0 h2⟩
theorem put_g {b : Addr} {k x : PV} {v : V} (rk : Rep G H M (.ref b) k) (hk : PV.keyB k = true) (rv : Rep G H M v x) : ∀ {c : CnG} {ps : List (PV × PV)}, RepAll G H M (c.map fun x => .ref x.2.1) (ps.map (·.1)) → (ps.all fun p => PV.keyB p.1) = true → c.map (·.1) = ps.map (fun p => PV.nk p.1) → RepAll G H M (c.map (·.2.2)) (ps.map (·.2)) →
    RepAll G H M ((putG c (PV.nk k) b v).map fun x => .ref x.2.1) ((pput ps k x).map (·.1)) ∧ ((pput ps k x).all fun p => PV.keyB p.1) = true ∧ (putG c (PV.nk k) b v).map (·.1) = (pput ps k x).map (fun p => PV.nk p.1) ∧ RepAll G H M ((putG c (PV.nk k) b v).map (·.2.2)) ((pput ps k x).map (·.2)) := by
  intro c ps r1 o e r
  have hs : (pget ps k).isSome = (valG c (PV.nk k)).isSome := by
    rcases look_g k e r with ⟨a, b⟩ | ⟨v0, x0, a, b, _⟩ <;> (rw [a, b]; rfl)
  unfold pput putG
  rw [hs]
  cases q : (valG c (PV.nk k)).isSome with
  | false =>
    rw [if_neg (by decide), if_neg (by decide)]
    refine ⟨?_, by rw [List.all_append, o]; simp [hk], by rw [List.map_append, List.map_append, e]; rfl, ?_⟩
    · rw [List.map_append, List.map_append]; exact r1.append (.cons rk .nil)
    · rw [List.map_append, List.map_append]; exact r.append (.cons rv .nil)
  | true =>
    rw [if_pos rfl, if_pos rfl]
    clear hs q
    induction c generalizing ps with
    | nil => cases ps with
      | nil => exact ⟨.nil, rfl, rfl, .nil⟩
      | cons p ps => cases e
    | cons kv c ih => cases ps with
      | nil => cases e
      | cons p ps =>
        cases r with
        | cons r0 rt =>
          cases r1 with
          | cons q0 qt =>
            rw [List.all_cons, Bool.and_eq_true_iff] at o
            obtain ⟨e1, e2⟩ := List.cons.inj e
            obtain ⟨h1, h2, h3, h4⟩ := ih qt o.2 e2 rt
            simp only [List.map_cons, List.all_cons, show kv.1 = PV.nk p.1 from e1]
            by_cases c : PV.nk p.1 = PV.nk k
            · rw [if_pos c, if_pos c]
              exact ⟨.cons q0 h1, by rw [h2, Bool.and_true]; exact o.1, by rw [h3], .cons rv h4⟩
            · rw [if_neg c, if_neg c]
              exact ⟨.cons q0 h1, by rw [h2, Bool.and_true]; exact o.1, by rw [h3]; exact congrArg (· :: _) e1, .cons r0 h4⟩
theorem del_k {k : Key} : ∀ {kvs : List (Key × V)} {ps : List (PV × PV)}, ps.map (·.1) = kvs.map (fun p => keyP p.1) → RepAll G H M (kvs.map (·.2)) (ps.map (·.2)) →
    (pdel ps (keyP k)).map (·.1) = (dropK kvs k).map (fun p => keyP p.1) ∧ RepAll G H M ((dropK kvs k).map (·.2)) ((pdel ps (keyP k)).map (·.2))
  | [], [], _, _ => ⟨rfl, .nil⟩
  | [], p :: ps, e, _ => by cases e
  | kv :: kvs, [], e, _ => by cases e
  | kv :: kvs, p :: ps, e, r => by
    cases r with
    | cons r0 rt =>
      obtain ⟨e1, e2⟩ := List.cons.inj e
      obtain ⟨h1, h2⟩ := del_k (k := k) e2 rt
      unfold pdel dropK at h1 h2 ⊢
      rw [List.filter_cons, List.filter_cons, show p.1 = keyP kv.1 from e1]
      by_cases c : kv.1 = k
      · rw [if_neg (by simp [c]), if_neg (by simp [c])]; exact ⟨h1, h2⟩
      · rw [if_pos (by simp; exact fun z => c (nk_keyP z)), if_pos (by simp [c])]
        exact ⟨by rw [List.map_cons, List.map_cons, h1]; exact congrArg (· :: _) e1, .cons r0 h2⟩
theorem del_g {k : PV} : ∀ {c : CnG} {ps : List (PV × PV)}, RepAll G H M (c.map fun x => .ref x.2.1) (ps.map (·.1)) → (ps.all fun p => PV.keyB p.1) = true → c.map (·.1) = ps.map (fun p => PV.nk p.1) → RepAll G H M (c.map (·.2.2)) (ps.map (·.2)) →
    RepAll G H M ((delG c (PV.nk k)).map fun x => .ref x.2.1) ((pdel ps k).map (·.1)) ∧ ((pdel ps k).all fun p => PV.keyB p.1) = true ∧ (delG c (PV.nk k)).map (·.1) = (pdel ps k).map (fun p => PV.nk p.1) ∧ RepAll G H M ((delG c (PV.nk k)).map (·.2.2)) ((pdel ps k).map (·.2))
  | [], [], _, _, _, _ => ⟨.nil, rfl, rfl, .nil⟩
  | [], p :: ps, _, _, e, _ => by cases e
  | kv :: kvs, [], _, _, e, _ => by cases e
  | kv :: kvs, p :: ps, r1, o, e, r => by
    cases r with
    | cons r0 rt =>
      cases r1 with
      | cons q0 qt =>
        rw [List.all_cons, Bool.and_eq_true_iff] at o
        obtain ⟨e1, e2⟩ := List.cons.inj e
        obtain ⟨h1, h2, h3, h4⟩ := del_g (k := k) qt o.2 e2 rt
        unfold pdel at h1 h2 h3 h4 ⊢
        unfold delG at h1 h3 h4 ⊢
        rw [List.filter_cons, List.filter_cons, show kv.1 = PV.nk p.1 from e1]
        by_cases c : PV.nk p.1 = PV.nk k
        · rw [if_neg (by simp [c]), if_neg (by simp [c])]; exact ⟨h1, h2, h3, h4⟩
        · rw [if_pos (by simp [c]), if_pos (by simp [c])]
          exact ⟨.cons q0 h1, by rw [List.all_cons, h2, Bool.and_true]; exact o.1, by rw [List.map_cons, List.map_cons, h3]; exact congrArg (· :: _) e1, .cons r0 h4⟩
end
section
variable {G : Gh} {lv : Nat} {X : Cx} {a b c o : Expr} {es : List Expr} {qa qb : QE} {qA : QAs} {qB : QBs} {pos p apos cpos tpos : Pos} {e : PEnv} {M : Addr → Prop} {σ : L2.St} {H : Hp}
def gIxU (p q : PV) (k : QV → Prop) : Prop := match p with
  | .dic ps => (keyA q = true ∧ famB ps q = true) ∧ withP (pget ps q) fun x => k (.sh x)
  | _ => gIx p q k
theorem l_ixU : Lift2 G (fun x y H Q => rIx G.K x y H Q ∨ rGetD G.P G.w x y H Q) gIxU := fun e M σ H v w p q Q k S a b g f => by
  unfold gIxU at g
  split at g
  · rename_i ps
    obtain ⟨⟨ka, fa⟩, g⟩ := g
    obtain ⟨x, hx, kx⟩ := withP_of g
    obtain ⟨d, rfl, dv⟩ := a.dic
    have rk := b.key ka
    refine .inr ⟨d, rfl, ?_⟩
    rcases keyA_cases ka with ⟨kk, rfl, _⟩ | ⟨kb, it⟩
    · obtain ⟨kvs, h1, h2, h3⟩ := dv.k (famK fa)
      rw [rep_keyP rk]
      rcases look_k kk h2 h3 with ⟨_, z⟩ | ⟨v0, x0, e1, e2, r⟩
      · rw [hx] at z; cases z
      · rw [hx] at e2; cases e2
        exact .inl ⟨kvs, kk, v0, h1, rfl, e1, aft_sh S (f _ kx) r⟩
    · obtain ⟨c, h1, h2, h3, h4, h5⟩ := dv.g (famG fa it)
      obtain ⟨b', rfl, kh, dp⟩ := rep_keyB rk kb
      rcases look_g q h4 h5 with ⟨_, z⟩ | ⟨v0, x0, e1, e2, r⟩
      · rw [hx] at z; cases z
      · rw [hx] at e2; cases e2
        exact .inr ⟨c, b', _, v0, h1, rfl, kh, dp, e1, aft_sh S (f _ kx) r⟩
  · exact .inl (l_ix e M σ H v w p q Q k S a b g f)
abbrev qIxU := qOp gIxU
theorem q_ixU (g : Good G lv X) (ha : PE X a (LE G qa)) (hb : PE X b (LE G qb)) (hs : PlainIx b := by exact fun _ _ => rfl) : PE X (.Subscript a b pos) (LE G (qIxU qa qb)) :=
  q_ixr (IxR.or (ix_seqQ g.K) (g.P ▸ g.w ▸ ix_D g.units)) l_ixU ha hb hs
def hasP (xs : List PV) (q : PV) : Bool := (PV.toDs xs).any fun z => PyData.eqv z (PV.toD q)
def gInB (f : Bool → Bool) (q p : PV) (k : Bool → Prop) : Prop := match p with
  | .dic ps => (keyA q = true ∧ famB ps q = true) ∧ k (f (pget ps q).isSome)
  | .lst xs => (Shp q ∧ Shp (.lst xs)) ∧ k (f (hasP xs q))
  | .tup xs => (Shp q ∧ Shp (.tup xs)) ∧ k (f (hasP xs q))
  | .str z => match q with
    | .str y => ∃ c, y = ⟨#[c]⟩ ∧ k (f (decide (c ∈ z.cps.toList)))
    | _ => False
  | _ => False
theorem gInB_mono (f : Bool → Bool) (q p : PV) (k k' : Bool → Prop) (g : ∀ b, k b → k' b) (h : gInB f q p k) : gInB f q p k' := by
  unfold gInB at h ⊢
  split at h
  · exact ⟨h.1, g _ h.2⟩
  · exact ⟨h.1, g _ h.2⟩
  · exact ⟨h.1, g _ h.2⟩
  · split at h
    · obtain ⟨c, e, q⟩ := h; exact ⟨c, e, g _ q⟩
    · exact h
  · exact h
def rInSq (K : PySem.W.Frag) (f : Bool → Bool) : R2 := fun x y H Q => ∃ d ds, Dp K H x d ∧ (Dp K H y (.list ds) ∨ Dp K H y (.tuple ds)) ∧ SeqAt.shaped d = true ∧ PyData.canLayAll0 ds = true ∧ Q (.bl (f (ds.any fun z => PyData.eqv z d))) H
theorem room_sq {d : PyData} {ds : List PyData} {A : Around} (sd : SeqAt.shaped d = true) (hu : A.units + 66 < cLine) : A.units + 1 + min (PyData.depthAll ds) d.depth < cLine := by
  have h1 := SeqAt.depth_of_shaped sd
  have h2 : min (PyData.depthAll ds) d.depth ≤ d.depth := Nat.min_le_right _ _
  omega
theorem op_inSq (hu : X.A.units + 66 < cLine) : OpR X (compareOp .In) (rInSq X.K fun b => b) := by
  intro pins s σ H x y v u Q I rx ry h
  obtain ⟨d, ds, hd, he, sd, se, q⟩ := h
  obtain ⟨as, r1⟩ := Dp.reads I d x v hd rx
  rcases he with he | he
  · obtain ⟨bs, r2⟩ := Dp.reads I _ y u he ry
    exact SeqAt.in_list_reads r2 r1 se (SeqAt.canLay_of_shaped sd) (room_sq sd hu) ⟨.bl _, H, I, rfl, q⟩
  · obtain ⟨bs, r2⟩ := Dp.reads I _ y u he ry
    exact SeqAt.in_tuple_reads r2 r1 se (SeqAt.canLay_of_shaped sd) (room_sq sd hu) ⟨.bl _, H, I, rfl, q⟩
theorem op_notInSq (hu : X.A.units + 66 < cLine) : OpR X (compareOp .NotIn) (rInSq X.K fun b => !b) := by
  intro pins s σ H x y v u Q I rx ry h
  obtain ⟨d, ds, hd, he, sd, se, q⟩ := h
  obtain ⟨as, r1⟩ := Dp.reads I d x v hd rx
  rcases he with he | he
  · obtain ⟨bs, r2⟩ := Dp.reads I _ y u he ry
    exact SeqAt.notIn_list_reads r2 r1 se (SeqAt.canLay_of_shaped sd) (room_sq sd hu) ⟨.bl _, H, I, rfl, q⟩
  · obtain ⟨bs, r2⟩ := Dp.reads I _ y u he ry
    exact SeqAt.notIn_tuple_reads r2 r1 se (SeqAt.canLay_of_shaped sd) (room_sq sd hu) ⟨.bl _, H, I, rfl, q⟩
def rInCh (f : Bool → Bool) : R2 := fun x y H Q => ∃ (c : Nat) (z : Str), x = .str ⟨#[c]⟩ ∧ y = .str z ∧ Q (.bl (f (decide (c ∈ z.cps.toList)))) H
abbrev rInU (G : Gh) (f : Bool → Bool) : R2 := fun x y H Q => rInD G.P G.w f x y H Q ∨ (rInSq G.K f x y H Q ∨ rInCh f x y H Q)
theorem l_in (f : Bool → Bool) : Lift2 G (rInU G f) (gB (gInB f)) := fun e M σ H v w p q Q k S a b g fin => by
  have fin' : ∀ c, k (.sh (.bl c)) → Q (.bl c) H := fun c kk => aft_sh S (fin _ kk) (.bl c)
  unfold gB gInB at g
  split at g
  · rename_i ps
    obtain ⟨⟨ka, fa⟩, g⟩ := g
    obtain ⟨d, rfl, dv⟩ := b.dic
    have rk := a.key ka
    refine .inl ⟨d, rfl, ?_⟩
    rcases keyA_cases ka with ⟨kk, rfl, _⟩ | ⟨kb, it⟩
    · obtain ⟨kvs, h1, h2, h3⟩ := dv.k (famK fa)
      rw [rep_keyP rk]
      refine .inl ⟨kvs, kk, h1, rfl, ?_⟩
      rcases look_k kk h2 h3 with ⟨e1, e2⟩ | ⟨v0, x0, e1, e2, r⟩ <;> (rw [e2] at g; rw [e1]; exact fin' _ g)
    · obtain ⟨c, h1, h2, h3, h4, h5⟩ := dv.g (famG fa it)
      obtain ⟨b', rfl, kh, dp⟩ := rep_keyB rk kb
      refine .inr ⟨c, b', _, h1, rfl, kh, dp, ?_⟩
      rcases look_g p h4 h5 with ⟨e1, e2⟩ | ⟨v0, x0, e1, e2, r⟩ <;> (rw [e2] at g; rw [e1]; exact fin' _ g)
  · obtain ⟨⟨s1, s2⟩, g⟩ := g
    exact .inr (.inl ⟨_, _, a.dp s1.1, .inl (b.dp s2.1), s1.2, SeqAt.canLay_of_shaped s2.2, fin' _ g⟩)
  · obtain ⟨⟨s1, s2⟩, g⟩ := g
    exact .inr (.inl ⟨_, _, a.dp s1.1, .inr (b.dp s2.1), s1.2, SeqAt.canLay_of_shaped s2.2, fin' _ g⟩)
  · split at g
    · obtain ⟨c, rfl, g⟩ := g
      rw [a.str, b.str]
      exact .inr (.inr ⟨c, _, rfl, rfl, fin' _ g⟩)
    · exact g.elim
  · exact g.elim
abbrev gNotIn := gInB fun b => !b
theorem Good.units66 (g : Good G lv X) : X.A.units + 66 < cLine := by have := g.room.un; omega
theorem c_notIn (g : Good G lv X) : CmpQ G X .NotIn gNotIn := ⟨⟨_, OpR.or (g.P ▸ g.w ▸ op_notInD g.units) (OpR.or (g.K ▸ op_notInSq g.units66) op_notIn_sign), l_in _⟩, gInB_mono _⟩
end
end CP
namespace CP
open PySem PySem.Spec PyProof.Rows L2
section
variable {G : Gh} {lv : Nat} {X : Cx} {a b c o : Expr} {es : List Expr} {qa qb : QE} {qA : QAs} {qB : QBs} {pos p apos cpos tpos : Pos} {e : PEnv} {M : Addr → Prop} {σ : L2.St} {H : Hp}
theorem PSet.or {t t' : TSet} (h : PSet X t) (h' : PSet X t') : PSet X (fun o i v H Q => t o i v H Q ∨ t' o i v H Q) := by
  intro pins s σ H o i v ov iv u Q I r1 r2 r3 q
  rcases q with q | q
  · exact h pins s σ H o i v ov iv u Q I r1 r2 r3 q
  · exact h' pins s σ H o i v ov iv u Q I r1 r2 r3 q
theorem obj_put {d : Addr} {ps : List (PV × PV)} {y x : PV} {i v : V} {Q : Hp → Prop} (ob : Obj G.toEn H M d (.dic ps)) (ka : keyA y = true) (fa : famB ps y = true) (ry : Rep G.toEn H M i y) (rx : Rep G.toEn H M v x) (few : ps.length < SZ)
    (k : ∀ o, (Step H M (L2.upd H d o) M → Obj G.toEn (L2.upd H d o) M d (.dic (pput ps y x))) → Q (L2.upd H d o)) : rPutD G.P G.w (.ref d) i v H Q := by
  refine ⟨d, rfl, ?_⟩
  rcases keyA_cases ka with ⟨kk, rfl, _⟩ | ⟨kb, it⟩
  · rw [rep_keyP ry]
    rcases ob with ⟨kvs, h1, h2, h3⟩ | ⟨c, h1, h2, h3, h4, h5⟩
    · have hl : kvs.length = ps.length := by have := congrArg List.length h2; simpa using this.symm
      refine .inl ⟨kvs, kk, .inl h1, rfl, by rw [hl]; exact sz_fits1 few, k _ fun s => ?_⟩
      obtain ⟨g1, g2⟩ := put_k rx h2 h3
      exact .inl ⟨_, upd_same, g1, g2.step s⟩
    · have e0 : ps = [] := by
        cases ps with
        | nil => rfl
        | cons p ps =>
          rw [List.all_cons, Bool.and_eq_true_iff] at h3
          obtain ⟨⟨xs, e⟩, _⟩ := keyB_tup h3.1
          have := famK fa p List.mem_cons_self
          rw [e] at this; cases this
      subst e0
      have e1 : c = [] := List.map_eq_nil_iff.mp (by rw [h4]; rfl)
      subst e1
      refine .inl ⟨[], kk, .inr ⟨rfl, h1⟩, rfl, by rw [sizeLine_eq]; simp, k _ fun s => ?_⟩
      obtain ⟨g1, g2⟩ := put_k (kvs := []) (ps := []) (k := kk) rx rfl .nil
      exact .inl ⟨_, upd_same, g1, g2.step s⟩
  · obtain ⟨b, rfl, kh, dp⟩ := rep_keyB ry kb
    rcases ob with ⟨kvs, h1, h2, h3⟩ | ⟨c, h1, h2, h3, h4, h5⟩
    · have e0 : ps = [] := by
        cases ps with
        | nil => rfl
        | cons p ps =>
          cases kvs with
          | nil => cases h2
          | cons kv kvs =>
            have q := famG fa it p List.mem_cons_self
            have e1 : p.1 = keyP kv.1 := (List.cons.inj h2).1
            rw [e1] at q
            cases hk : kv.1 <;> (rw [hk] at q; cases q)
      subst e0
      have e1 : kvs = [] := List.map_eq_nil_iff.mp (by rw [← h2]; rfl)
      subst e1
      refine .inr ⟨[], b, _, .inr ⟨rfl, h1⟩, rfl, kh, dp, by rw [sizeLine_eq]; simp, k _ fun s => ?_⟩
      obtain ⟨g1, g2, g3, g4⟩ := put_g (c := []) (ps := []) ry kb rx .nil rfl rfl .nil
      exact .inr ⟨_, upd_same, g1.step s, g2, g3, g4.step s⟩
    · have hl : c.length = ps.length := by have := congrArg List.length h4; simpa using this
      refine .inr ⟨c, b, _, .inl ⟨h1, keys_of h2 h3 h4⟩, rfl, kh, dp, by rw [hl]; exact sz_fits1 few, k _ fun s => ?_⟩
      obtain ⟨g1, g2, g3, g4⟩ := put_g ry kb rx h2 h3 h4 h5
      exact .inr ⟨_, upd_same, g1.step s, g2, g3, g4.step s⟩
def sSetU (j : Nat) (qv qi : QE) : QS := fun E e => qv e fun r e1 => keep r e1 fun x e2 => muB e2 j = true ∧ qi e2 fun r2 e3 => withP (acc e3 r2) fun y => withP (getC e3 j) fun p => match p with
  | .lst xs => withI y fun n => ∃ m, ixN xs.length n = some m ∧ E.nx (putC e3 j (.lst (xs.set m x)))
  | .dic ps => (keyA y = true ∧ famB ps y = true ∧ ps.length < SZ) ∧ E.nx (putC e3 j (.dic (pput ps y x)))
  | _ => False
theorem s_setU {j : Nat} {i v : Expr} {tpos : Pos} {qv qi : QE} (g : Good G lv X) (hv : PE X v (LE G qv)) (ho : PE X o (tVar j)) (hi : PE X i (LE G qi))
    (ht : ∀ v, assign (.Subscript o i tpos) X.env v = (do
      let ov ← holding [v] (eval o X.env)
      let iv ← holding [v, ov] (eval i X.env)
      standAt tpos
      holding [v, ov, iv] (setItem ov iv v)
      release [v, ov, iv] []) := by intro _; rfl) (hs : swapsWithSole [.Subscript o i tpos] v pos.line X.env = pure false := by rfl) (hw : swappedStores [.Subscript o i tpos] v X.env = pure none := by rfl) (h1 : (assignEach [.Subscript o i tpos] X.env).map (·.2) = [assign (.Subscript o i tpos) X.env] := by rfl) :
    PS X (.Assign [.Subscript o i tpos] v pos) (LS G (sSetU j qv qi)) :=
  PS.imp (ps_asg hv (pg_sub ho hi (PSet.or set_list (g.P ▸ g.w ▸ set_D g.units)) ht) hs hw h1) fun D σ H ⟨e, M, E, S, k, f⟩ => ⟨e, M, _, S, k, fun r e1 k1 v H1 M1 S1 s1 R => by
    obtain ⟨x, e2, M2, ⟨lb, k2⟩, S2, s2, R2⟩ := keep_ok S1 R k1
    obtain ⟨b, p0, h1, _⟩ := S2.mu (mu_of lb)
    refine ⟨.ref b, h1, e2, M2, _, S2, k2, fun r2 e3 k3 w H3 M3 S3 s3 R3 => ?_⟩
    obtain ⟨y, hy, k3⟩ := withP_of k3
    obtain ⟨p, hp, k3⟩ := withP_of k3
    have A3 := Res.acc S3 R3 hy
    obtain ⟨b', q1, ob, _⟩ := S3.cont hp
    rw [h1] at q1; cases q1
    split at k3
    · obtain ⟨n, rfl, k3⟩ := withI_of k3
      rw [A3.int]
      obtain ⟨m, hm, k3⟩ := k3
      obtain ⟨us, hu, ru⟩ := ob
      refine .inl ⟨b, us, n, m, rfl, rfl, hu, by rw [ru.length]; exact hm, ?_⟩
      obtain ⟨S4, s4⟩ := S3.change hp h1 (o := .lst (us.set m v)) (p' := .lst (_)) (fun s => ⟨_, upd_same, RepAll.set ((R2.step s3).step s) m (ru.step s)⟩)
      exact f.nx _ k3 σ _ M3 S4 (((s1.trans s2).trans s3).trans s4)
    · rename_i ps
      obtain ⟨⟨ka, fa, few⟩, k3⟩ := k3
      refine .inr (obj_put ob ka fa (A3.key ka) (R2.step s3) few fun o ob' => ?_)
      obtain ⟨S4, s4⟩ := S3.change hp h1 (o := o) ob'
      exact f.nx _ k3 σ _ M3 S4 (((s1.trans s2).trans s3).trans s4)
    · exact k3.elim⟩
def tyD (P : Program) (w : World) (H : Hp) (a : Addr) : Prop := (∃ kvs, Rd H a (.dK kvs)) ∨ ∃ c, Rd H a (DctG P w a c)
theorem tyD_at {pins : List (Addr × PySem.Obj)} {s : Shared} {a : Addr} (I : L2.Inv X pins σ H s) (h : tyD X.prog X.w H a) : s.TypeIs (.ref a) "dict" ∧ ∃ o, s.heap.get? a = some o ∧ o.dict = none := by
  rcases h with ⟨kvs, h⟩ | ⟨c, h⟩
  · obtain ⟨_, _, vs, _, o, es, ep, h1, h2, _⟩ := dk_rd I.hok h
    exact ⟨⟨o, h1, h2.1⟩, o, h1, h2.2.1⟩
  · obtain ⟨⟨_, o, es, ep, us, h1, h2, _⟩, _⟩ := h.ok I.hok
    exact ⟨⟨o, h1, h2.1⟩, o, h1, h2.2.1⟩
def tLD (P : Program) (w : World) (K : PySem.W.Frag) (rl rd : V → List V → Hp → VK → Prop) (to : TE) (t : TA) : TE := fun σ H Q => to σ H fun x H1 => ∃ a, x = .ref a ∧ (((∃ vs, H1 a = some (.lst vs)) ∧ t σ H1 fun xs H2 => rl x xs H2 Q) ∨ (tyD P w H1 a ∧ t σ H1 fun xs H2 => rd x xs H2 Q))
theorem pe_LD {name : Str} {il id : String} {rl rd : V → List V → Hp → VK → Prop} {to : TE} {t : TA} (sl : Slot "list" name il) (tl : typeOf (.builtin il) = pure (.type "method_descriptor")) (ml : MtR X il rl) (sd : Slot "dict" name id) (td : typeOf (.builtin id) = pure (.type "method_descriptor")) (md : MtR X id rd) (ho : PE X o to) (ha : PA X (a :: es) t)
    (hbase : attributeBase o name X.env (eval o X.env) = eval o X.env := by rfl)
    (hfew : ((backTo cpos (starEach (a :: es) X.env)).all (fun x => !x.1) && (backToKw cpos (keywordEach [] X.env)).all (fun x => x.1.isSome) && decide ((a :: es).length + ([] : List Keyword).length + (if ([] : List Keyword).isEmpty then 0 else 1) < 30)) = true := by rfl)
    (hline : (apos.endLine == cpos.line) = true := by rfl) (hs : starEach (a :: es) X.env = (false, eval a X.env) :: starEach es X.env := by rfl) (hplain : (backTo cpos (starEach es X.env)).any (·.1) = false := by rfl) :
    PE X (.Call (.Attribute o name apos) (a :: es) [] cpos) (tLD X.prog X.w X.K rl rd to t) := by
  refine ⟨fun pins s σ H Q I h => wpAny_Call_method_late hbase hfew hline rfl (thn (ho.run pins s σ H _ I h) fun v s1 ⟨x, H1, I1, r1, a, ex, q1⟩ => ?_)⟩
  subst ex
  cases r1
  rcases q1 with ⟨⟨us, hu⟩, q1⟩ | ⟨ty, q1⟩
  · obtain ⟨z, its, n, r, hl, e⟩ := I1.lstM hu
    refine ⟨"list", il, F.plainAttrs_list, sl, tl, ⟨_, e, rfl⟩, (fun b z => by cases z; exact ⟨_, e, rfl⟩), ?_⟩
    have hA := ha.run cpos pins s1 σ H1 _ I1 q1
    rw [hs] at hA ⊢
    refine Calls.callWith_builtin (by show (false || (backTo cpos (starEach es X.env)).any (·.1)) = false; rw [hplain]; rfl) (Calls.evalArgs_plain (thn hA fun us s2 ⟨vs, H2, I2, r2, q2⟩ => ?_))
    exact ml pins s2 σ H2 (.ref a) vs (.ref a) us Q I2 rfl r2 q2
  · obtain ⟨t1, ob, t2, t3⟩ := tyD_at I1 ty
    refine ⟨"dict", id, F.plainAttrs_dict, sd, td, t1, (fun b z => by cases z; exact ⟨ob, t2, t3⟩), ?_⟩
    have hA := ha.run cpos pins s1 σ H1 _ I1 q1
    rw [hs] at hA ⊢
    refine Calls.callWith_builtin (by show (false || (backTo cpos (starEach es X.env)).any (·.1)) = false; rw [hplain]; rfl) (Calls.evalArgs_plain (thn hA fun us s2 ⟨vs, H2, I2, r2, q2⟩ => ?_))
    exact md pins s2 σ H2 (.ref a) vs (.ref a) us Q I2 rfl r2 q2
def gPopU : GM := fun p ps k => match p with
  | .lst _ => gPopAt p ps k
  | .dic qs => match ps with
    | [y] => (keyA y = true ∧ famB qs y = true ∧ qs.length ≤ SZ) ∧ ∃ x, pget qs y = some x ∧ k (.dic (pdel qs y)) x
    | _ => False
  | _ => False
def qMu (i : Nat) (q : QAs) (g : GM) : QE := fun e Q => match getC e i with
  | some (.lst _) => q e fun ps e1 => match getC e1 i with
    | some (.lst xs) => g (.lst xs) ps fun p' x => Q (.sh x) (putC e1 i p')
    | _ => False
  | some (.dic _) => q e fun ps e1 => match getC e1 i with
    | some (.dic xs) => g (.dic xs) ps fun p' x => Q (.sh x) (putC e1 i p')
    | _ => False
  | _ => False
theorem l_popD (M : Addr → Prop) (H : Hp) (a : Addr) (qs : List (PV × PV)) (vs : List V) (ps : List PV) (Q : VK) (k : PV → PV → Prop) (ob : Obj G.toEn H M a (.dic qs)) (R : RepAll G.toEn H M vs ps) (g : gPopU (.dic qs) ps k)
    (f : ∀ p' x o v, k p' x → (Step H M (L2.upd H a o) M → Obj G.toEn (L2.upd H a o) M a p') → (Step H M (L2.upd H a o) M → Rep G.toEn (L2.upd H a o) M v x) → Q v (L2.upd H a o)) : rPopD G.P G.w (.ref a) vs H Q := by
  unfold gPopU at g
  dsimp only at g
  split at g
  · rename_i y
    obtain ⟨⟨ka, fa, few⟩, x, hx, g⟩ := g
    cases R with
    | cons r0 rt =>
      cases rt
      refine ⟨a, rfl, ?_⟩
      rcases keyA_cases ka with ⟨kk, rfl, _⟩ | ⟨kb, it⟩
      · rw [rep_keyP r0]
        rcases ob with ⟨kvs, h1, h2, h3⟩ | ⟨c, h1, h2, h3, h4, h5⟩
        · rcases look_k kk h2 h3 with ⟨_, z⟩ | ⟨v0, x0, e1, e2, r⟩
          · rw [hx] at z; cases z
          · rw [hx] at e2; cases e2
            obtain ⟨g1, g2⟩ := del_k (k := kk) h2 h3
            exact .inl ⟨kvs, kk, v0, h1, rfl, e1, f _ _ _ _ g (fun s => .inl ⟨_, upd_same, g1, g2.step s⟩) fun s => r.step s⟩
        · exfalso
          cases qs with
          | nil => cases hx
          | cons p ps =>
            rw [List.all_cons, Bool.and_eq_true_iff] at h3
            obtain ⟨⟨xs, e⟩, _⟩ := keyB_tup h3.1
            have := famK fa p List.mem_cons_self
            rw [e] at this; cases this
      · obtain ⟨b, rfl, kh, dp⟩ := rep_keyB r0 kb
        rcases ob with ⟨kvs, h1, h2, h3⟩ | ⟨c, h1, h2, h3, h4, h5⟩
        · exfalso
          cases qs with
          | nil => cases hx
          | cons p ps =>
            cases kvs with
            | nil => cases h2
            | cons kv kvs =>
              have q := famG fa it p List.mem_cons_self
              have e1 : p.1 = keyP kv.1 := (List.cons.inj h2).1
              rw [e1] at q
              cases hk : kv.1 <;> (rw [hk] at q; cases q)
        · have hl : c.length = qs.length := by have := congrArg List.length h4; simpa using this
          rcases look_g y h4 h5 with ⟨_, z⟩ | ⟨v0, x0, e1, e2, r⟩
          · rw [hx] at z; cases z
          · rw [hx] at e2; cases e2
            obtain ⟨g1, g2, g3, g4⟩ := del_g (k := y) h2 h3 h4 h5
            exact .inr ⟨c, b, _, v0, h1, keys_of h2 h3 h4, rfl, kh, dp, by rw [hl]; exact sz_fits few, e1, f _ _ _ _ g (fun s => .inr ⟨_, upd_same, g1.step s, g2, g3, g4.step s⟩) fun s => r.step s⟩
  · exact g.elim
theorem q_pop {i : Nat} (g : Good G lv X) (ho : PE X o (tVar i)) (ha : PA X [a] (LA G qA)) (hbase : attributeBase o "pop" X.env (eval o X.env) = eval o X.env := by rfl)
    (hfew : ((backTo cpos (starEach [a] X.env)).all (fun x => !x.1) && (backToKw cpos (keywordEach [] X.env)).all (fun x => x.1.isSome) && decide (([a] : List Expr).length + ([] : List Keyword).length + (if ([] : List Keyword).isEmpty then 0 else 1) < 30)) = true := by rfl)
    (hline : (apos.endLine == cpos.line) = true := by rfl) (hs : starEach [a] X.env = (false, eval a X.env) :: starEach [] X.env := by rfl) (hplain : (backTo cpos (starEach [] X.env)).any (·.1) = false := by rfl) :
    PE X (.Call (.Attribute o "pop" apos) [a] [] cpos) (LE G (qMu i qA gPopU)) :=
  PE.imp (pe_LD PySem.F.slot_list_pop PySem.F.type_list_pop mt_popAt PySem.F.slot_dict_pop PySem.F.type_dict_pop (g.P ▸ g.w ▸ mt_popD g.units : MtR X "dict.pop" (rPopD G.P G.w)) ho ha hbase hfew hline hs hplain) fun σ H Q ⟨e, M, K, S, q, f⟩ => by
    unfold qMu at q
    split at q
    · rename_i xs0 hc
      obtain ⟨a, h1, ob0, _⟩ := S.cont hc
      obtain ⟨us, hu, _⟩ := ob0
      refine ⟨.ref a, h1, a, rfl, .inl ⟨⟨us, hu⟩, e, M, _, S, q, fun ps e1 k1 vs H1 M1 S1 s1 R => ?_⟩⟩
      split at k1
      · rename_i xs1 hp
        obtain ⟨a', q1, q3, q4⟩ := S1.cont hp
        rw [h1] at q1; cases q1
        unfold gPopU at k1
        refine l_popAt M1 H1 a _ vs ps Q _ q3 q4 R k1 (fun p' x o v kk ob rv => ?_)
        obtain ⟨S2, s2⟩ := S1.change hp h1 ob
        exact f _ _ kk v _ M1 S2 (s1.trans s2) (rv s2)
      · exact k1.elim
    · rename_i qs0 hc
      obtain ⟨a, h1, ob0, _⟩ := S.cont hc
      have ty : tyD X.prog X.w H a := by
        rw [g.P, g.w]
        rcases ob0 with ⟨kvs, z, _⟩ | ⟨c, z, _⟩
        · exact .inl ⟨kvs, .inl z⟩
        · exact .inr ⟨c, .inl z⟩
      refine ⟨.ref a, h1, a, rfl, .inr ⟨ty, e, M, _, S, q, fun ps e1 k1 vs H1 M1 S1 s1 R => ?_⟩⟩
      split at k1
      · rename_i qs1 hp
        obtain ⟨a', q1, q3, q4⟩ := S1.cont hp
        rw [h1] at q1; cases q1
        refine l_popD M1 H1 a _ vs ps Q _ q3 R k1 (fun p' x o v kk ob rv => ?_)
        obtain ⟨S2, s2⟩ := S1.change hp h1 ob
        exact f _ _ kk v _ M1 S2 (s1.trans s2) (rv s2)
      · exact k1.elim
    · exact q.elim
def gLenU (ps : List PV) (k : QV → Prop) : Prop := match ps with
  | [.dic qs] => qs.length ≤ SZ ∧ k (.sh (.int qs.length))
  | _ => gLen ps k
theorem cr_lenD (hc : X.calm = true) : CallR X (.builtin "len") (rLenD X.prog X.w) := by
  intro pins s σ H vs us Q I r h
  obtain ⟨d, rfl, h⟩ := h
  rw [Vals.ref1 r]
  rcases h with ⟨kvs, hd, q⟩ | ⟨c, hd, hk, few, q⟩
  · exact d_len I hd fun t s' I' => ⟨.int _, H, I', ⟨_, rfl⟩, q⟩
  · obtain ⟨sy, us', dd, rel⟩ := dgv_get I (.inl ⟨hd, hk⟩)
    have le := Paired.length rel
    have hl : (us'.length : Int) = c.length := by rw [← le]
    refine call_len_dictH (knd := nestedKind X.prog X.w) sy dd (by rw [hl]; rw [sizeLine_eq] at few; omega) ?_
    rw [hl]
    exact ⟨.int _, H, I.tok _, ⟨_, rfl⟩, q⟩
theorem DView.few {d : Addr} {ps : List (PV × PV)} (h : DView G.toEn H M d ps) {Q : VK} (fl : ps.length ≤ SZ) (k : Q (.int ps.length) H) : rLenD G.P G.w [.ref d] H Q := by
  rcases h with ⟨kvs, h1, h2, h3⟩ | ⟨c, h1, h2, h3, h4, h5⟩
  · have hl : kvs.length = ps.length := by have := congrArg List.length h2; simpa using this.symm
    exact ⟨d, rfl, .inl ⟨kvs, h1, by rw [hl]; exact k⟩⟩
  · have hl : c.length = ps.length := by have := congrArg List.length h4; simpa using this
    exact ⟨d, rfl, .inr ⟨c, h1, keys_of h2 h3 h4, by rw [hl]; exact sz_fits fl, by rw [hl]; exact k⟩⟩
theorem l_lenU : LiftC G (fun vs H Q => rLenQ G.K vs H Q ∨ rLenD G.P G.w vs H Q) gLenU := fun e M σ H vs ps Q k S a g f => by
  unfold gLenU at g
  split at g
  · obtain ⟨v, rfl, b⟩ := acc1 a
    obtain ⟨d, rfl, dv⟩ := b.dic
    exact .inr (dv.few g.1 (aft_sh S (f _ g.2) (.int _)))
  · exact .inl (l_len e M σ H vs ps Q k S a g f)
theorem q_lenU (g : Good G lv X) (hm : X.mg "len" = none) (ha : PA X (a :: es) (LB G qB)) (hg : Gl X "len" := by rfl) (he : starEach (a :: es) X.env = (false, eval a X.env) :: starEach es X.env := by rfl) (hpl : (backTo pos (starEach es X.env)).any (·.1) = false := by rfl) :
    PE X (.Call (.Name "len" p) (a :: es) [] pos) (LE G (qCB gLenU qB)) := q_cb (CallR.or (cr_lenQ g.K) (g.P ▸ g.w ▸ cr_lenD g.calm : CallR X (.builtin "len") (rLenD G.P G.w))) l_lenU hg hm PySem.boot_len ha (by decide) (by decide) he hpl
def qFrz (q : QE) : QE := fun e Q => q e fun r e1 => match r with
  | .sh p => Q (.sh p) e1
  | .fr (.dic ps) => Q (.sh (.dic ps)) e1
  | .fr p => Q (.fr p) e1
  | .bor i => match e1[i]? with
    | some (Sl.own (.dic ps)) => Q (.sh (.dic ps)) (e1.set i (.val (.dic ps)))
    | _ => Q (.bor i) e1
theorem StOk.lock (S : StOk G e M σ H) {A : Addr} {ps : List (PV × PV)} (ob : Obj G.toEn H M A (.dic ps)) (ma : M A) (m0 : ¬ G.M0 A) (h0 : G.H0 A = none) {e' : PEnv} (hl : e'.length = e.length)
    (hv : ∀ (j : Nat) (p : PV), e'[j]? = some (Sl.val p) → e[j]? = some (Sl.val p) ∨ (σ[j]? = some (some (V.ref A)) ∧ p = .dic ps)) (ho : ∀ (j : Nat) (p : PV), e'[j]? = some (Sl.own p) → e[j]? = some (Sl.own p)) (hi : ∀ (j : Nat) (p : PV), e'[j]? = some (Sl.io p) ↔ e[j]? = some (Sl.io p))
    (hne : ∀ j, Mu e' j → σ[j]? ≠ some (some (V.ref A))) :
    ∃ u, H A = some u ∧ Mut (some u) ∧ ∀ od, StOk G e' (fun b => M b ∧ b ≠ A) σ (L2.upd H A (.frz od u)) ∧ Step H M (L2.upd H A (.frz od u)) (fun b => M b ∧ b ≠ A) ∧ Rep G.toEn (L2.upd H A (.frz od u)) (fun b => M b ∧ b ≠ A) (.ref A) (.dic ps) := by
  have go : ∀ u od, H A = some u → Step H M (L2.upd H A (.frz od u)) (fun b => M b ∧ b ≠ A) := fun u od hu =>
    ⟨fun b o h n => by rw [upd_ne (fun z : b = A => n (by rw [z]; exact ma))]; exact h, fun b _ h => h.1, fun b h => by
      by_cases c : b = A
      · rw [c, upd_same]; simp
      · rw [upd_ne c]; exact h⟩
  have fin : ∀ u od, H A = some u → Rep G.toEn (L2.upd H A (.frz od u)) (fun b => M b ∧ b ≠ A) (.ref A) (.dic ps) → StOk G e' (fun b => M b ∧ b ≠ A) σ (L2.upd H A (.frz od u)) := fun u od hu rp => by
    have s := go u od hu
    have sub : ∀ {j}, Mu e' j → Mu e j := fun {j} ⟨p, h⟩ => h.elim (fun h => ⟨p, .inl (ho j p h)⟩) fun h => ⟨p, .inr ((hi j p).mp h)⟩
    refine ⟨hl.trans S.len, fun j p h => ?_, fun j p h => ?_, fun j p h => ?_, fun i j a mi mj => S.inj i j a (sub mi) (sub mj), fun j a h => ?_, fun a h => ⟨S.m0 a h, fun z => m0 (z ▸ h)⟩, fun a h => s.there a (S.trk a h.1), fun b o h n => ?_, fun a o h => ?_⟩
    · rcases hv j p h with h' | ⟨h', rfl⟩
      · obtain ⟨v, q1, q2⟩ := S.val j p h'
        exact ⟨v, q1, q2.step s⟩
      · exact ⟨_, h', rp⟩
    · obtain ⟨a, q1, q2, q3, q4, q5⟩ := S.own j p (ho j p h)
      have na : a ≠ A := fun z => hne j ⟨p, .inl h⟩ (z ▸ q1)
      exact ⟨a, q1, q2.step s (upd_ne na), ⟨q3, na⟩, q4, q5⟩
    · obtain ⟨a, q0, q1, q2, q3, q4⟩ := S.io j p ((hi j p).mp h)
      have na : a ≠ A := fun z => hne j ⟨p, .inr h⟩ (z ▸ q1)
      exact ⟨a, q0, q1, q2.step s (upd_ne na), ⟨q3, na⟩, q4⟩
    · obtain ⟨q1, p, q2⟩ := S.iol j a h
      exact ⟨q1, p, (hi j p).mpr q2⟩
    · have q := S.prs b o h n
      rw [upd_ne (fun z : b = A => by rw [z, h0] at h; cases h)]; exact q
    · obtain ⟨q1, q2⟩ := S.tmp a o h
      exact ⟨q1, by rw [upd_ne (fun z : a = A => m0 (z ▸ q1))]; exact q2⟩
  rcases ob with ⟨kvs, h1, h2, h3⟩ | ⟨c, h1, h2, h3, h4, h5⟩
  · refine ⟨_, h1, True.intro, fun od => ?_⟩
    have s := go _ od h1
    have rp : Rep G.toEn (L2.upd H A (.frz od (.dK kvs))) (fun b => M b ∧ b ≠ A) (.ref A) (.dic ps) := .dicK upd_same (fun z => z.2 rfl) h2 (h3.step s)
    exact ⟨fin _ od h1 rp, s, rp⟩
  · refine ⟨_, h1, True.intro, fun od => ?_⟩
    have s := go _ od h1
    have rp : Rep G.toEn (L2.upd H A (.frz od (DctG G.P G.w A c))) (fun b => M b ∧ b ≠ A) (.ref A) (.dic ps) := .dicG upd_same (fun z => z.2 rfl) (h2.step s) h3 h4 (h5.step s)
    exact ⟨fin _ od h1 rp, s, rp⟩
theorem q_frz (ha : PE X a (LE G qa)) : PE X a (LE G (qFrz qa)) := by
  refine ⟨fun pins s σ H Q I ⟨e, M, K, S, q, f⟩ => ?_⟩
  refine thn (ha.run pins s σ H (fun x H1 => ∃ e1 M1 r, StOk G e1 M1 σ H1 ∧ Step H M H1 M1 ∧ Res G e1 M1 σ H1 x r ∧ (match r with
    | .sh p => K (.sh p) e1
    | .fr (.dic ps) => K (.sh (.dic ps)) e1
    | .fr p => K (.fr p) e1
    | .bor i => match e1[i]? with
      | some (Sl.own (.dic ps)) => K (.sh (.dic ps)) (e1.set i (.val (.dic ps)))
      | _ => K (.bor i) e1)) I ⟨e, M, _, S, q, fun r e1 k v H1 M1 S1 s1 R => ⟨e1, M1, r, S1, s1, R, k⟩⟩) fun u s1 ⟨x, H1, I1, rx, e1, M1, r, S1, st, R, k⟩ => ?_
  have plain : ∀ r, K r e1 → Res G e1 M1 σ H1 x r → EP X pins σ Q u s1 := fun r k R => ⟨x, H1, I1, rx, f r e1 k x H1 M1 S1 st R⟩
  have locked : ∀ {A : Addr} {ps : List (PV × PV)} {e' : PEnv}, x = .ref A → (∃ u, H1 A = some u ∧ Mut (some u) ∧ ∀ od, StOk G e' (fun b => M1 b ∧ b ≠ A) σ (L2.upd H1 A (.frz od u)) ∧ Step H1 M1 (L2.upd H1 A (.frz od u)) (fun b => M1 b ∧ b ≠ A) ∧ Rep G.toEn (L2.upd H1 A (.frz od u)) (fun b => M1 b ∧ b ≠ A) (.ref A) (.dic ps)) → K (.sh (.dic ps)) e' → EP X pins σ Q u s1 := fun ex ⟨w, h1, h2, h3⟩ k => by
    subst ex
    obtain ⟨od, I2⟩ := L2.Inv.lock I1 h1 h2
    obtain ⟨S2, s2, rp⟩ := h3 od
    exact ⟨_, _, I2, rx, f _ _ k _ _ _ S2 (st.trans s2) rp⟩
  cases r with
  | sh p => exact plain _ k R
  | fr p =>
    cases p with
    | dic ps =>
      obtain ⟨A, ex, ob, ma, m0, h0, nj⟩ := R
      exact locked ex (S1.lock ob ma m0 h0 rfl (fun j p h => .inl h) (fun j p h => h) (fun j p => Iff.rfl) nj) k
    | _ => exact plain _ k R
  | bor i =>
    have k : (match e1[i]? with
      | some (Sl.own (.dic ps)) => K (.sh (.dic ps)) (e1.set i (.val (.dic ps)))
      | _ => K (.bor i) e1) := k
    split at k
    · rename_i ps hp
      obtain ⟨A, q1, ob, ma, m0, h0⟩ := S1.own i _ hp
      have ex : x = .ref A := by
        have R : σ[i]? = some (some x) := R
        rw [R] at q1; cases q1; rfl
      have li := get_lt hp
      refine locked ex (S1.lock ob ma m0 h0 (List.length_set ..) (fun j p h => ?_) (fun j p h => ?_) (fun j p => ?_) (fun j m z => ?_)) k
      · by_cases c : j = i
        · subst c
          rw [List.getElem?_set_self li] at h; cases h
          exact .inr ⟨q1, rfl⟩
        · rw [get_set_ne c] at h; exact .inl h
      · by_cases c : j = i
        · subst c
          rw [List.getElem?_set_self li] at h; cases h
        · rw [get_set_ne c] at h; exact h
      · by_cases c : j = i
        · subst c
          rw [List.getElem?_set_self li, hp]
          constructor <;> (intro z; cases z)
        · rw [get_set_ne c]
      · obtain ⟨c, m'⟩ := mu_set li m
        exact c (S1.inj j i A m' ⟨_, .inl hp⟩ z q1)
    · exact plain _ k R
def qDnil : QE := fun e Q => Q (.fr (.dic [])) e
theorem StOk.newDic (S : StOk G e M σ H) {p : Addr} {o : HO} {ps : List (PV × PV)} (hp : H p = none) (ob : Step H M (L2.upd H p o) (fun a => a = p ∨ M a) → Obj G.toEn (L2.upd H p o) (fun a => a = p ∨ M a) p (.dic ps)) :
    StOk G e (fun a => a = p ∨ M a) σ (L2.upd H p o) ∧ Step H M (L2.upd H p o) (fun a => a = p ∨ M a) ∧ Res G e (fun a => a = p ∨ M a) σ (L2.upd H p o) (.ref p) (.fr (.dic ps)) := by
  obtain ⟨S', s⟩ := S.newM (o := o) hp
  refine ⟨S', s, p, rfl, ob s, .inl rfl, fun z => S.trk p (S.m0 p z) hp, S.h0 hp, fun j m z => ?_⟩
  obtain ⟨a, q, h1, _, h2, _⟩ := S.mu m
  rw [z] at h1; cases h1
  exact h2.there hp
theorem q_dnil : PE X (.Dict [] [] pos) (LE G qDnil) := PE.imp pe_dnewK fun σ H Q ⟨e, M, K, S, q, f⟩ p hp => by
  obtain ⟨S', st, rs⟩ := S.newDic (o := .dK []) (ps := []) hp fun s => .inl ⟨[], upd_same, rfl, .nil⟩
  exact f _ e q _ _ _ S' st rs
theorem pip_of {op : Operator} {r : R2} (h : OpR X (inplaceOp op) r) : PIp X op r := fun pins s σ H x y v u Q I rx ry q => h pins s σ H x y v u Q I rx ry q
end
end CP
namespace CP
open PySem PySem.Spec PyProof.Rows L2
def sPutG (P : Program) (w : World) (D : Addr) (y z : V) (H : Hp) (Nx : Hp → Prop) : Prop := ∃ (b : Addr) (k : NestedKey) (c : CnG), y = .ref b ∧ H D = some (DctG P w D c) ∧ KeysG H c ∧ KH H y k ∧ k.depth ≤ 8 ∧ c.length < sizeLine ∧ Nx (L2.upd H D (DctG P w D (putG c k b z)))
def tDcG (P : Program) (w : World) (wi : TI) (g : TG) (tt : TT) (tk tv : TE) (vs : List Nat) : TE := fun σ H Q => wi σ H fun J H1 => ∀ D, H1 D = none → ∃ W : Nat → Nat → Hp → Prop, (∃ m, W 0 m (L2.upd H1 D (DctG P w D []))) ∧ ∀ i m H, W i m H →
  (J.stop i H ∧ Q (.ref D) H) ∨ (J.go i H ∧ ∃ Nx : Hp → Prop, (∀ H', Nx H' → ∃ m', m' < m ∧ W (i + 1) m' H') ∧ ∀ x H', J.yld i H x H' → g x (wipe σ vs) H' fun σ2 H2 => wipe σ2 vs = wipe σ vs ∧ tt σ2 H2 fun b H3 =>
    if b = true then tk σ2 H3 fun y H4 => tv σ2 H4 fun z H5 => sPutG P w D y z H5 Nx else Nx H3)
theorem dctGI_new (P : Program) (w : World) (h : Heap) (hb : sysModules < h.objs.size) : DctGI P w h.objs.size [] (h.push { cls := .type "dict", data := .dict #[] }) :=
  ⟨beq_eq_false_iff_ne.mpr (Nat.ne_of_gt hb), _, #[], 0, [], Heap.get?_push_size _ rfl, ⟨rfl, rfl, rfl⟩, rfl, rfl, List.nodup_nil, .nil⟩
section
variable {X : Cx}
theorem dictSet_G {pins : List (Addr × PySem.Obj)} {σ : L2.St} {H : Hp} {s : Shared} {E : Value → Shared → Prop} {D : Addr} {y z : V} {uy uz : Value} {Nx : Hp → Prop} {Q : Unit → Shared → Prop} (room : X.A.units + 64 < cLine) (V0 : L2.Inv X pins σ H s) (ry : RelV y uy) (rz : RelV z uz) (h : sPutG X.prog X.w D y z H Nx)
    (fin : ∀ s' H', L2.Inv X pins σ H' s' → Nx H' → Q () s') : wpAny (model X.prog X.w) X.A (dictSet D uy uz) Q E s := by
  obtain ⟨b, k, c, rfl, h1, h2, hk, dp, few, q⟩ := h
  obtain ⟨sy, us, M, l⟩ := dgv_get V0 (.inl ⟨Rd.of h1, h2⟩)
  have le := Paired.length l
  cases ry
  refine wpAny_dictSet_heap (knd := nestedKind X.prog X.w) (hsz := by omega) (by show _ + 8 < cLine; omega) ⟨hk.is V0 rfl, dp⟩ M fun h' M' sb => ?_
  have he : ∃ q, h'.get? D = some q := let ⟨q, _, _, hq, _⟩ := M'; ⟨q, hq⟩
  exact fin _ _ (d_write V0 (by rw [h1]; exact True.intro) sb he (dctG_ok (dctGI_of sy M' (likeG_put rz l)))) q
theorem pe_dcG {kx vx tg iter : Expr} {ifs : List Expr} {scope : Scope} {own : List (Str × Nat)} {pos : Pos} {wi : TI} {g : TG} {tt : TT} {tk tv : TE} (calm : X.calm = true) (once : X.N.Nodup) (room : X.A.units + 64 < cLine) (ri : PI X tg iter wi) (blk : BlkOk X.N X.env.scope scope own)
    (rg : ∀ s H C cl fp, PG (X.blk s H scope (compEnvC scope cl C X.env) fp) tg g) (rt : ∀ s H C cl fp, PTs (X.blk s H scope (compEnvC scope cl C X.env) fp) ifs tt)
    (rk : ∀ s H C cl fp, PE (X.blk s H scope (compEnvC scope cl C X.env) fp) kx tk) (rv : ∀ s H C cl fp, PE (X.blk s H scope (compEnvC scope cl C X.env) fp) vx tv) (plain : ∀ x, foldedSetIterable iter X.env x = pure x := by intro _; rfl) :
    PE X (.DictComp kx vx [⟨tg, iter, ifs, 0⟩] scope pos) (tDcG X.prog X.w wi g tt tk tv (own.map (·.2))) := by
  refine ⟨fun pins s σ H Q V0 want => ?_⟩
  rw [arm_eval_DictComp]
  have cells : ∀ y ∈ scope.names, y.2 = .free → ∃ c, X.env.cells.lookup y.1 = some c := fun y hy e => (blk.free y hy e).elim (fun q => V0.ok.has _ (.inl q)) fun q => V0.ok.has _ (.inr q)
  refine wpAny_comprehension_free rfl plain (closure_ok cells) blk.kind (fun y hy e => by rw [blk.uniq y hy, e]) (thn (ri.run pins s σ H _ V0 want) fun xv s1 hx => thn hx fun itv s2 ⟨it, fp, tn, J, H2, e, V2, T, w2, p2, q⟩ => ?_)
  subst e
  refine wpAny_newObj_type (newEnv_comp ?_)
  have big := V2.big
  -- the new dict at D, and the block's own names behind it
  generalize eD : s2.heap.objs.size = D
  have nD : H2 D = none := V2.hok.fresh (Nat.le_of_eq eD)
  obtain ⟨W, ⟨m0, w0⟩, turn⟩ := q D nD
  generalize e3 : ({ s2 with heap := s2.heap.push { cls := .type "dict", data := .dict #[] } } : Shared) = s3
  have hp3 : s3.heap = s2.heap.push { cls := .type "dict", data := .dict #[] } := by rw [← e3]
  have V3 : L2.Inv X pins σ (L2.upd H2 D (DctG X.prog X.w D [])) s3 := by
    subst e3
    refine V2.laid (t' := s2.toks) (fun b o e => Heap.get?_push_of_some _ e) (Nat.le_of_eq eD) ?_
    subst eD
    exact dctG_ok (dctGI_new X.prog X.w s2.heap V2.big)
  have old : ∀ b ∈ fp, b < s2.heap.objs.size := fun b hb => let ⟨_, e, _⟩ := T.obj _ _ w2 b hb; Heap.lt_size e
  have p3 : ∀ b ∈ fp, FpOk X pins (L2.upd H2 D (DctG X.prog X.w D [])) b ∧ b < s3.heap.objs.size := fun b hb => by
    have lt := old b hb
    refine ⟨⟨by rw [upd_ne (by rw [← eD]; exact Nat.ne_of_lt lt)]; exact (p2 b hb).1, (p2 b hb).2⟩, ?_⟩
    rw [hp3, Heap.size_push]; exact Nat.lt_succ_of_lt lt
  have w3 : tn 0 s3.heap := T.keep _ _ _ w2 fun b _ o e => hp3 ▸ Heap.get?_push_of_some _ e
  have V4 := block_start V3 blk once p3
  have free3 : ∀ b ∈ fp, (L2.upd H2 D (DctG X.prog X.w D [])) b = none := fun b hb => (p3 b hb).1.1
  generalize hcl : cellsFrom (s3.heap.objs.size + 1) scope.names (cloFrom X.env.cells scope.names []) = cl at V4
  have rg := rg s3 (L2.upd H2 D (DctG X.prog X.w D [])) s3.heap.objs.size cl fp
  have rt := rt s3 (L2.upd H2 D (DctG X.prog X.w D [])) s3.heap.objs.size cl fp
  have rk := rk s3 (L2.upd H2 D (DctG X.prog X.w D [])) s3.heap.objs.size cl fp
  have rv := rv s3 (L2.upd H2 D (DctG X.prog X.w D [])) s3.heap.objs.size cl fp
  show codeAny _ _ (.compStart _ 0 (.ref it) (.ref D) (compEnvC scope cl s3.heap.objs.size X.env)) _ { s3 with heap := pushCells (s3.heap.push { cls := .type "dict", data := .dict #[] }) scope.names }
  generalize hce : compEnvC scope cl s3.heap.objs.size X.env = ce at V4 rg rt rk rv ⊢
  have loc : ce.locals = s3.heap.objs.size := by subst hce; rfl
  generalize L2.upd H2 D (DctG X.prog X.w D []) = H3 at V3 V4 rg rt rk rv w0 free3 p3
  generalize e4 : ({ s3 with heap := pushCells (s3.heap.push { cls := .type "dict", data := .dict #[] }) scope.names } : Shared) = s4 at V4 ⊢
  have w4 : tn 0 s4.heap := T.keep _ _ _ w3 fun b _ o e => by subst e4; exact pushCells_keeps _ _ _ _ (Heap.get?_push_of_some _ e)
  have aside : ∀ {σ' : L2.St} {H' : Hp} {s' : Shared}, L2.Inv (X.blk s3 H3 scope ce fp) [] σ' H' s' → (∀ b ∈ fp, H' b = none) → ∀ b ∈ fp, FpOk (X.blk s3 H3 scope ce fp) [] H' b := fun V' nn b hb =>
    ⟨nn b hb, (V'.ok.exf b hb).1, V'.ok.exfs b hb, .inl hb, fun x c e => (V'.ok.exf b hb).2 x c e, fun p hp => absurd hp (by simp)⟩
  have loop : codeAny (model X.prog X.w) X.A (.compLoop (.DictComp kx vx [⟨tg, iter, ifs, 0⟩] scope pos) 0 (.ref it) (.ref D) ce) (compPost (model X.prog X.w) X.A X.xe none (EP X pins σ Q) (.ref D) s3.heap.objs.size) s4 := by
    refine compLoop_anyD (fun n s' => ∃ i H', L2.Inv (X.blk s3 H3 scope ce fp) [] (wipe σ (own.map (·.2))) H' s' ∧ tn i s'.heap ∧ (∀ b ∈ fp, H' b = none) ∧ W i n H') ?_ m0 ⟨0, H3, V4, w4, free3, w0⟩
    rintro n s5 ⟨i, H5, V5, w5, n5, u5⟩
    rcases turn i n H5 u5 with ⟨halt, got⟩ | ⟨go, Nx, down, step⟩
    · refine thnF (T.done (X.blk s3 H3 scope ce fp) rfl rfl rfl calm i [] s5 _ H5 (fun _ _ => False) V5 (aside V5 n5) w5 halt) fun r s6 ⟨er, V6⟩ => ?_
      subst er
      -- back among the def's own names
      have V7 : L2.Inv X pins σ H5 s6 := V3.call' (ch := fp) V6.os V6.base V6.hok V6.bare fun b hb => let z := (p3 b hb).1.2; ⟨z.2.2.1, z.1, z.2.2.2.1, z.2.2.2.2⟩
      have nC : H5 s3.heap.objs.size = none := loc ▸ V6.free
      obtain ⟨m, ns, _⟩ := V6.loc
      have ns : s6.heap.Ns s3.heap.objs.size m := loc ▸ ns
      obtain ⟨f0, f1, f2, f3, f4, f5⟩ := V3.fpOk (Nat.le_refl _) nC
      exact ⟨m, ns, fun h2 sb => ⟨.ref D, H5, V7.turned (t' := s6.toks) (fun b o hb e => (sb.2 b hb).trans e) f0 f1 f3 f4 f5, rfl, got⟩⟩
    · refine thnF (T.item (X.blk s3 H3 scope ce fp) rfl rfl rfl calm i [] s5 _ H5 (fun _ _ => False) V5 (aside V5 n5) w5 go) fun r s6 ⟨u, er, h6⟩ => ?_
      subst er
      refine thnF h6 fun _ s7 ⟨x, H7, V7, r7, y7, w7, n7⟩ => ?_
      have P7 := V7.pinned (aside V7 n7) (T.obj _ _ w7)
      refine thnF (rg.run _ s7 _ H7 x u _ P7 r7 (step x H7 y7)) fun _ s8 ⟨σ8, H8, V8, same8, q8⟩ => ?_
      refine thnF (rt.run _ s8 σ8 H8 _ V8 q8) fun b s9 ⟨H9, V9, q9⟩ => ?_
      have next : ∀ {s' : Shared} {H' : Hp}, L2.Inv (X.blk s3 H3 scope ce fp) ([] ++ pinsAt fp s7.heap) σ8 H' s' → Nx H' → ∃ m, m < n ∧ ∃ i H', L2.Inv (X.blk s3 H3 scope ce fp) [] (wipe σ (own.map (·.2))) H' s' ∧ tn i s'.heap ∧ (∀ b ∈ fp, H' b = none) ∧ W i m H' := fun {s' H'} V' nx => by
        obtain ⟨m', lt, u'⟩ := down H' nx
        have fixed : ∀ b ∈ fp, ∀ o, s7.heap.get? b = some o → s'.heap.get? b = some o ∧ H' b = none := fun b hb o e =>
          let z := V'.pin (b, o) (List.mem_append_right _ (List.mem_append_right _ (mem_pinsAt hb e))); ⟨z.1, z.2.1⟩
        refine ⟨m', lt, i + 1, H', (V'.unpinned (pins := [])).weak (by rw [← same8, wipe_length]) (fun j v e => (wipe_some (same8 ▸ e)).1), T.keep _ _ _ w7 fun b hb o e => (fixed b hb o e).1, fun b hb => ?_, u'⟩
        obtain ⟨o, e, _⟩ := T.obj _ _ w7 b hb
        exact (fixed b hb o e).2
      cases b with
      | false =>
        simp only [Bool.false_eq_true, if_false] at q9 ⊢
        exact next V9 q9
      | true =>
        simp only [if_true] at q9 ⊢
        refine thnF (rk.run _ s9 σ8 H9 _ V9 q9) fun z1 s10 ⟨yk, H10, V10, r10, q10⟩ => thnF (rv.run _ s10 σ8 H10 _ V10 q10) fun z2 s11 ⟨yv, H11, V11, r11, q11⟩ => ?_
        exact dictSet_G (X := X.blk s3 H3 scope ce fp) room V11 r10 r11 q11 fun s12 H12 V12 nx => next V12 nx
  exact codeAny_compStart_dict loop (T.self X.A 0 _ _ _ w4 loop)
def runD (tp : Bool) (g : QG) (t : QT) (qk qv : QE) (vs : List Nat) : List PV → List (PV × PV) → PEnv → (List (PV × PV) → PEnv → Prop) → Prop
  | [], acc, e, k => k acc e
  | p :: ps, acc, e, k => g p e fun e1 => t e1 fun b e2 => if b = true then qk e2 fun r e3 => keep r e3 fun kk e4 => qv e4 fun r2 e5 => keep r2 e5 fun x e6 => (keyA kk = true ∧ isT kk = tp ∧ acc.length < SZ) ∧ runD tp g t qk qv vs ps (pput acc kk x) (wipeE e6 vs) k else runD tp g t qk qv vs ps acc (wipeE e2 vs) k
def qDc (tp : Bool) (i : QI) (g : QG) (t : QT) (qk qv : QE) (vs : List Nat) : QE := fun e Q => i e fun items e1 => noIo e1 vs = true ∧ runD tp g t qk qv vs items [] (wipeE e1 vs) fun acc e2 => Q (.fr (.dic acc)) (backE e1 e2 vs)
def DObj (G : En) (H : Hp) (M : Addr → Prop) (D : Addr) (tp : Bool) (o : HO) (ps : List (PV × PV)) : Prop := match tp with
  | false => ∃ kvs : List (Key × V), o = .dK kvs ∧ ps.map (·.1) = kvs.map (fun p => keyP p.1) ∧ RepAll G H M (kvs.map (·.2)) (ps.map (·.2))
  | true => ∃ c, o = DctG G.P G.w D c ∧ RepAll G H M (c.map fun x => .ref x.2.1) (ps.map (·.1)) ∧ (ps.all fun p => PV.keyB p.1) = true ∧ c.map (·.1) = ps.map (fun p => PV.nk p.1) ∧ RepAll G H M (c.map (·.2.2)) (ps.map (·.2))
theorem DObj.obj {G : En} {H : Hp} {M : Addr → Prop} {D : Addr} {tp : Bool} {o : HO} {ps : List (PV × PV)} (h : DObj G H M D tp o ps) (e : H D = some o) : Obj G H M D (.dic ps) := by
  cases tp with
  | false => obtain ⟨kvs, rfl, h1, h2⟩ := h; exact .inl ⟨kvs, e, h1, h2⟩
  | true => obtain ⟨c, rfl, h1, h2, h3, h4⟩ := h; exact .inr ⟨c, e, h1, h2, h3, h4⟩
theorem DObj.step {G : En} {H H' : Hp} {M M' : Addr → Prop} {D : Addr} {tp : Bool} {o : HO} {ps : List (PV × PV)} (h : DObj G H M D tp o ps) (s : Step H M H' M') : DObj G H' M' D tp o ps := by
  cases tp with
  | false => obtain ⟨kvs, e, h1, h2⟩ := h; exact ⟨kvs, e, h1, h2.step s⟩
  | true => obtain ⟨c, e, h1, h2, h3, h4⟩ := h; exact ⟨c, e, h1.step s, h2, h3, h4.step s⟩
def newD (G : En) (D : Addr) : Bool → HO
  | false => .dK []
  | true => DctG G.P G.w D []
theorem DObj.new {G : En} {H : Hp} {M : Addr → Prop} {D : Addr} : ∀ {tp : Bool}, DObj G H M D tp (newD G D tp) []
  | false => ⟨[], rfl, rfl, .nil⟩
  | true => ⟨[], rfl, .nil, rfl, rfl, .nil⟩
def putD (G : En) (D : Addr) (tp : Bool) (y z : V) (H : Hp) (Nx : Hp → Prop) : Prop := match tp with
  | false => ∃ kvs k, y = kV k ∧ H D = some (.dK kvs) ∧ kvs.length < sizeLine ∧ Nx (L2.upd H D (.dK (putK kvs k z)))
  | true => sPutG G.P G.w D y z H Nx
variable {G : Gh} {lv : Nat}
theorem dobj_put {H : Hp} {M : Addr → Prop} {D : Addr} {tp : Bool} {o : HO} {ps : List (PV × PV)} {y z : V} {k x : PV} {Nx : Hp → Prop} (h : DObj G.toEn H M D tp o ps) (e : H D = some o) (ka : keyA k = true) (kt : isT k = tp) (few : ps.length < SZ) (ry : Rep G.toEn H M y k) (rx : Rep G.toEn H M z x)
    (fin : ∀ o', (∀ H' M', Step H M H' M' → DObj G.toEn H' M' D tp o' (pput ps k x)) → Nx (L2.upd H D o')) : putD G.toEn D tp y z H Nx := by
  rcases keyA_cases ka with ⟨kk, rfl, it⟩ | ⟨kb, it⟩
  · rw [it] at kt; subst kt
    obtain ⟨kvs, rfl, h1, h2⟩ := h
    have hl : kvs.length = ps.length := by have := congrArg List.length h1; simpa using this.symm
    obtain ⟨g1, g2⟩ := put_k rx h1 h2
    exact ⟨kvs, kk, rep_keyP ry, e, by rw [hl]; exact sz_fits1 few, fin _ fun H' M' s => ⟨_, rfl, g1, g2.step s⟩⟩
  · rw [it] at kt; subst kt
    obtain ⟨c, rfl, h1, h2, h3, h4⟩ := h
    have hl : c.length = ps.length := by have := congrArg List.length h3; simpa using this
    obtain ⟨b, rfl, kh, dp⟩ := rep_keyB ry kb
    obtain ⟨g1, g2, g3, g4⟩ := put_g ry kb rx h1 h2 h3 h4
    exact ⟨b, _, c, rfl, e, keys_of h1 h2 h3, kh, dp, by rw [hl]; exact sz_fits1 few, fin _ fun H' M' s => ⟨_, rfl, g1.step s, g2, g3, g4.step s⟩⟩
theorem dc_fin {tp : Bool} {σ : L2.St} {items : List PV} {J : It} {vs : List Nat} {qg : QG} {qt : QT} {qk qv : QE} {Q : VK} {e1 : PEnv} {M1 : Addr → Prop} {H1 : Hp} {K : List (PV × PV) → PEnv → Prop} (S1 : StOk G e1 M1 σ H1) (W : Walks G J items H1 M1) (hl : items.length ≤ sizeLine)
    (no : noIo e1 vs = true) (run : runD tp qg qt qk qv vs items [] (wipeE e1 vs) K) (fin : ∀ acc e2, K acc e2 → Aft G σ H1 M1 Q (.fr (.dic acc)) (backE e1 e2 vs)) {g' : TG} {t' : TT} {tk' tv' : TE}
    (hg : ∀ D o v σ H Q, LG (Gh.under G D o) vs qg v σ H Q → g' v σ H Q) (ht : ∀ D o σ H Q, LT (Gh.under G D o) qt σ H Q → t' σ H Q) (hk : ∀ D o σ H Q, LE (Gh.under G D o) qk σ H Q → tk' σ H Q) (hv : ∀ D o σ H Q, LE (Gh.under G D o) qv σ H Q → tv' σ H Q) :
    ∀ D, H1 D = none → ∃ W : Nat → Nat → Hp → Prop, (∃ m, W 0 m (L2.upd H1 D (newD G.toEn D tp))) ∧ ∀ i m H, W i m H → (J.stop i H ∧ Q (.ref D) H) ∨ (J.go i H ∧ ∃ Nx : Hp → Prop, (∀ H', Nx H' → ∃ m', m' < m ∧ W (i + 1) m' H') ∧ ∀ x H', J.yld i H x H' → g' x (wipe σ vs) H' fun σ2 H2 => wipe σ2 vs = wipe σ vs ∧ t' σ2 H2 fun b H3 =>
      if b = true then tk' σ2 H3 fun y H4 => tv' σ2 H4 fun z H5 => putD G.toEn D tp y z H5 Nx else Nx H3) := by
  intro D hD
  have h0 : G.H0 D = none := S1.h0 hD
  have nt : ∀ o, (D, o) ∉ G.tmp := fun o z => by rw [(S1.tmp D o z).2] at hD; cases hD
  have nM : ¬ G.M0 D := fun z => S1.trk D (S1.m0 D z) hD
  have noi : ∀ i a, (i, a) ∈ G.iol → i ∉ vs := fun i a h c => by
    obtain ⟨_, p, q2⟩ := S1.iol i a h
    exact noIo_of no c p q2
  obtain ⟨Sn, sn⟩ := S1.enter hD (newD G.toEn D tp)
  refine ⟨fun i m H' => m = items.length - i ∧ i ≤ items.length ∧ ∃ (acc : List (PV × PV)) (o : HO) (e' : PEnv) (M' : Addr → Prop), StOk (G.under D o) e' M' (wipe σ vs) H' ∧ Step H1 M1 H' M' ∧ DObj G.toEn H' M' D tp o acc ∧ (∀ j ∈ vs, ∀ s, e'[j]? = some s → s = .no) ∧ runD tp qg qt qk qv vs (items.drop i) acc e' K,
    ⟨_, rfl, Nat.zero_le _, [], _, wipeE e1 vs, _, Sn.wiped (fun i a h => noi i a h), sn, .new, fun j hj s h => wipeE_in hj h, run⟩, ?_⟩
  rintro i m H2 ⟨rfl, hi, acc, o, e2, M2, S2, s2, ra, hv2, k2⟩
  obtain ⟨wg, ws⟩ := W H2 M2 s2 S2.trk
  by_cases c : i < items.length
  · have hp : items[i]? = some items[i] := List.getElem?_eq_getElem c
    obtain ⟨go, yl⟩ := wg i _ hp
    rw [List.drop_eq_getElem_cons c] at k2
    refine .inr ⟨go, fun H' => ∃ (acc : List (PV × PV)) (o : HO) (e' : PEnv) (M' : Addr → Prop), StOk (G.under D o) e' M' (wipe σ vs) H' ∧ Step H1 M1 H' M' ∧ DObj G.toEn H' M' D tp o acc ∧ (∀ j ∈ vs, ∀ s, e'[j]? = some s → s = .no) ∧ runD tp qg qt qk qv vs (items.drop (i + 1)) acc e' K, fun H' h => ⟨items.length - (i + 1), by omega, rfl, c, h⟩, fun x H3 y => ?_⟩
    obtain ⟨y1, y3⟩ := yl x H3 y
    have sy : Step H2 M2 H3 M2 := step_grow1 y1
    refine hg D o _ _ _ _ ⟨e2, M2, items[i], _, S2.grow1 y1, y3, k2, fun e4 k4 σ4 H4 M4 S4 s4 w4 => ?_⟩
    have w4' : wipe σ4 vs = wipe σ vs := by rw [w4, wipe_idem]
    refine ⟨w4', ht D o _ _ _ ⟨e4, M4, _, S4, k4, fun b e5 k5 H5 M5 S5 s5 => ?_⟩⟩
    have st5 : Step H2 M2 H5 M5 := (sy.trans s4).trans s5
    cases b with
    | false =>
      refine ⟨acc, o, wipeE e5 vs, M5, ?_, s2.trans st5, ra.step st5, fun j hj s h => wipeE_in hj h, k5⟩
      rw [← w4']
      exact S5.wiped (fun i a h => noi i a h)
    | true =>
      refine hk D o _ _ _ ⟨e5, M5, _, S5, k5, fun r e6 k6 v H6 M6 S6 s6 R6 => ?_⟩
      obtain ⟨kp, e7, M7, k7, S7, s7, R7⟩ := keep_ok S6 R6 k6
      refine hv D o _ _ _ ⟨e7, M7, _, S7, k7, fun r2 e8 k8 v2 H8 M8 S8 s8 R8 => ?_⟩
      obtain ⟨xp, e9, M9, ⟨⟨ka, kt, few⟩, k9⟩, S9, s9, R9⟩ := keep_ok S8 R8 k8
      have st9 : Step H2 M2 H8 M9 := (((st5.trans s6).trans s7).trans s8).trans s9
      obtain ⟨q1, q2⟩ := S9.tmp D o List.mem_cons_self
      refine dobj_put (ra.step st9) q2 ka kt few (R7.step (s8.trans s9)) R9 fun o' ob' => ?_
      obtain ⟨Sg, sg⟩ := S9.grow (w := o') nt h0
      refine ⟨pput acc kp xp, o', wipeE e9 vs, M9, ?_, (s2.trans st9).trans sg, ob' _ _ sg, fun j hj s h => wipeE_in hj h, k9⟩
      rw [← w4']
      exact Sg.wiped (fun i a h => noi i a h)
  · have ei : i = items.length := by omega
    subst ei
    rw [List.drop_length] at k2
    refine .inl ⟨ws, fin acc e2 k2 _ _ M2 (S1.leave s2 S2 rfl hv2) s2 ⟨D, rfl, ?_, S2.m0 D (.inl rfl), nM, h0, fun j m z => ?_⟩⟩
    · exact ra.obj (S2.tmp D o List.mem_cons_self).2
    · have S' := S1.leave s2 S2 rfl hv2
      obtain ⟨p, h⟩ := m
      have key : j ∉ vs ∧ Mu e2 j := by
        rcases h with h | h
        · rcases backE_some h with ⟨c, h⟩ | ⟨_, h⟩
          · exact ⟨c, p, .inl h⟩
          · unfold stayV at h; split at h <;> cases h
        · rcases backE_some h with ⟨c, h⟩ | ⟨_, h⟩
          · exact ⟨c, p, .inr h⟩
          · unfold stayV at h; split at h <;> cases h
      obtain ⟨a, q, q1, _, _, _, q4, _⟩ := S2.mu key.2
      rw [sig_out key.1, z] at q1
      cases q1
      exact q4 (.inl rfl)
variable {kx vx tg iter : Expr} {ifs : List Expr} {scope : Scope} {own : List (Str × Nat)} {pos : Pos} {qi : QI} {qg : QG} {qt : QT} {qk qv : QE}
theorem q_dc (tp : Bool) (g : Good G lv X) (hi : PI X tg iter (LI G qi)) (ok : BlkOk X.N X.env.scope scope own)
    (hg : ∀ (s : Shared) (H : Hp) (C : Addr) (cl : List (Str × Addr)) (fp : List Addr) (D : Addr) (o : HO), Good (G.under D o) lv (X.blk s H scope (compEnvC scope cl C X.env) fp) → PG (X.blk s H scope (compEnvC scope cl C X.env) fp) tg (LG (G.under D o) (own.map (·.2)) qg))
    (ht : ∀ (s : Shared) (H : Hp) (C : Addr) (cl : List (Str × Addr)) (fp : List Addr) (D : Addr) (o : HO), Good (G.under D o) lv (X.blk s H scope (compEnvC scope cl C X.env) fp) → PTs (X.blk s H scope (compEnvC scope cl C X.env) fp) ifs (LT (G.under D o) qt))
    (hk : ∀ (s : Shared) (H : Hp) (C : Addr) (cl : List (Str × Addr)) (fp : List Addr) (D : Addr) (o : HO), Good (G.under D o) lv (X.blk s H scope (compEnvC scope cl C X.env) fp) → PE (X.blk s H scope (compEnvC scope cl C X.env) fp) kx (LE (G.under D o) qk))
    (hv : ∀ (s : Shared) (H : Hp) (C : Addr) (cl : List (Str × Addr)) (fp : List Addr) (D : Addr) (o : HO), Good (G.under D o) lv (X.blk s H scope (compEnvC scope cl C X.env) fp) → PE (X.blk s H scope (compEnvC scope cl C X.env) fp) vx (LE (G.under D o) qv))
    (hs : ∀ x, foldedSetIterable iter X.env x = pure x := by intro _; rfl) : PE X (.DictComp kx vx [⟨tg, iter, ifs, 0⟩] scope pos) (LE G (qDc tp qi qg qt qk qv (own.map (·.2)))) := by
  have a1 := fun s H C cl fp => pg_ex fun D => pg_ex fun o => hg s H C cl fp D o (g.blk D o s H scope _ fp)
  have a2 := fun s H C cl fp => pts_ex fun D => pts_ex fun o => ht s H C cl fp D o (g.blk D o s H scope _ fp)
  have a3 := fun s H C cl fp => pe_ex fun D => pe_ex fun o => hk s H C cl fp D o (g.blk D o s H scope _ fp)
  have a4 := fun s H C cl fp => pe_ex fun D => pe_ex fun o => hv s H C cl fp D o (g.blk D o s H scope _ fp)
  cases tp with
  | false =>
    refine PE.imp (pe_dc g.calm g.nd hi ok a1 a2 a3 a4 hs) fun σ H Q ⟨e, M, K, S, q, f⟩ => ?_
    refine ⟨e, M, _, S, q, fun items e1 k1 hl J H1 M1 S1 s1 W => ?_⟩
    exact dc_fin (g' := UG G (own.map (·.2)) qg) (t' := UT G qt) (tk' := UE G qk) (tv' := UE G qv) S1 W hl k1.1 k1.2 (fun acc e2 k => (f _ _ k).from s1) (fun D xs v σ H Q k => ⟨D, xs, k⟩) (fun D xs σ H Q k => ⟨D, xs, k⟩) (fun D xs σ H Q k => ⟨D, xs, k⟩) (fun D xs σ H Q k => ⟨D, xs, k⟩)
  | true =>
    refine PE.imp (g.P ▸ g.w ▸ pe_dcG g.calm g.nd g.units hi ok a1 a2 a3 a4 hs : PE X _ (tDcG G.P G.w _ _ _ _ _ _)) fun σ H Q ⟨e, M, K, S, q, f⟩ => ?_
    refine ⟨e, M, _, S, q, fun items e1 k1 hl J H1 M1 S1 s1 W => ?_⟩
    exact dc_fin (g' := UG G (own.map (·.2)) qg) (t' := UT G qt) (tk' := UE G qk) (tv' := UE G qv) S1 W hl k1.1 k1.2 (fun acc e2 k => (f _ _ k).from s1) (fun D xs v σ H Q k => ⟨D, xs, k⟩) (fun D xs σ H Q k => ⟨D, xs, k⟩) (fun D xs σ H Q k => ⟨D, xs, k⟩) (fun D xs σ H Q k => ⟨D, xs, k⟩)
end
end CP
namespace CP
open PySem PySem.Spec PyProof.Rows L2
def KysU (P : Program) (w : World) (d : Addr) (u : HO) (vs : List V) : Prop := (∃ kvs : List (Key × V), u = .dK kvs ∧ vs = kvs.map fun p => kV p.1) ∨ ∃ c, u = DctG P w d c ∧ vs = c.map fun x => V.ref x.2.1
theorem keys_rel {P : Program} {w : World} : ∀ {es : List DictEntry} {ws : List (Key × Value)} {kvs : List (Key × V)}, Pairs (mixKind P w) es ws → KV kvs ws → Vals (kvs.map fun p => kV p.1) (es.map (·.key))
  | _, _, _, .nil, r => by cases r; exact .nil
  | _, _, _, .cons h1 h2 t, r => by
    cases r with
    | cons r0 rt => exact .cons (by dsimp only; rw [r0.1]; exact relV_key (show keyIs _ _ = true from h1)) (keys_rel t rt)
theorem keys_relG {P : Program} {w : World} : ∀ {us : List (NestedKey × Addr × Value)} {c : CnG}, Paired LikeG c us → Vals (c.map fun x => V.ref x.2.1) ((us.map (entryOfKey (nestedKind P w))).map (·.key))
  | _, _, .nil => .nil
  | _, _, .cons h t => .cons (by show (Value.ref _) = Value.ref _; rw [h.2.1]) (keys_relG t)
section
variable {X : Cx} {pins : List (Addr × PySem.Obj)} {σ : L2.St} {H : Hp} {s : Shared}
theorem kys_raw {d : Addr} {u : HO} {vs : List V} (k : KysU X.prog X.w d u vs) (ok : ObjOk X.prog X.w H s.heap d u) : (d == sysModules) = false ∧ ∃ o es ep, s.heap.get? d = some o ∧ o.ExactDict ∧ o.data = .dict es ep ∧ Vals vs (es.toList.map (·.key)) := by
  rcases k with ⟨kvs, rfl, rfl⟩ | ⟨c, rfl, rfl⟩
  · obtain ⟨_, sy, ws, rel, o, es, ep, h1, h2, h3, _, h5, _⟩ := ok
    exact ⟨sy, o, es, ep, h1, h2, h3, keys_rel h5 rel⟩
  · obtain ⟨⟨sy, o, es, ep, us, h1, h2, h3, h4, _, h6⟩, _⟩ := ok
    refine ⟨sy, o, es, ep, h1, h2, h3, ?_⟩
    rw [h4]
    exact keys_relG h6
theorem kys_len {d : Addr} {vs : List V} {es : Array DictEntry} (r : Vals vs (es.toList.map (·.key))) : es.size = vs.length := by
  have := r.length
  rw [List.length_map, Array.length_toList] at this
  exact this.symm
theorem kys_at {vs : List V} {es : Array DictEntry} (r : Vals vs (es.toList.map (·.key))) {i : Nat} {v : V} (h : vs[i]? = some v) : ∃ en, es[i]? = some en ∧ RelV v en.key := by
  obtain ⟨u, hu, ru⟩ := r.get h
  rw [List.getElem?_map, Array.getElem?_toList] at hu
  cases q : es[i]? with
  | none => rw [q] at hu; cases hu
  | some en => rw [q] at hu; cases hu; exact ⟨en, rfl, ru⟩
end
def Itq (P : Program) (w : World) (d : Addr) (o : PySem.Obj) (u : HO) (vs : List V) : It :=
  ⟨fun i H => (H d = some (.frz o u) ∧ KysU P w d u vs) ∧ i < vs.length, fun i H x H' => H' = H ∧ vs[i]? = some x, fun i H => (H d = some (.frz o u) ∧ KysU P w d u vs) ∧ vs.length ≤ i⟩
theorem turn_q {P : Program} {w : World} {K : PySem.W.Frag} {tg : Expr} {d : Addr} {o : PySem.Obj} {u : HO} {vs : List V} {es : Array DictEntry} {ep : Nat} (it : Addr) (hod : o.data = .dict es ep) :
    Turn P w K tg (Itq P w d o u vs) [it] it (fun i h => h.IsKeyIter it d i vs.length ep) := by
  have look : ∀ {X : Cx} {pins : List (Addr × PySem.Obj)} {σ : L2.St} {H : Hp} {s : Shared}, X.prog = P → X.w = w → L2.Inv X pins σ H s → H d = some (.frz o u) → KysU P w d u vs → s.heap.get? d = some o ∧ Vals vs (es.toList.map (·.key)) := by
    intro X pins σ H s e1 e2 I hd k
    subst e1 e2
    obtain ⟨g, q⟩ := I.hok d _ hd
    obtain ⟨_, o', es', ep', h1, h2, h3, h4⟩ := kys_raw k q
    rw [g] at h1; cases h1
    obtain ⟨rfl, rfl⟩ := dict_ep hod h3
    exact ⟨g, h4⟩
  constructor
  · simp
  · rintro i h st b hb
    obtain rfl : b = it := by simpa using hb
    obtain ⟨oi, e, _, dd⟩ := st
    exact ⟨oi, e, fun v z => by rw [dd] at z; cases z⟩
  · exact fun i h h' st k => st.at fun oi e => k it (by simp) oi e
  · intro X hP hw hK calm i pins s σ H E I own st hg
    obtain ⟨⟨hd, ky⟩, lt⟩ := hg
    obtain ⟨f0, f1, f2, f3, f4, f5⟩ := own it (by simp)
    obtain ⟨hgd, rel⟩ := look hP hw I hd ky
    obtain ⟨v, hv⟩ : ∃ v, vs[i]? = some v := ⟨vs[i], List.getElem?_eq_getElem lt⟩
    obtain ⟨en, hen, ren⟩ := kys_at rel hv
    subst hP hw
    refine next_key_item st hgd hod (kys_len (d := d) rel) hen fun h2 st2 sb => ?_
    have I2 : L2.Inv X pins σ H { s with heap := h2 } := I.turned (t' := s.toks) (fun b ob hb e => (sb.2 b hb).trans e) f0 f1 f3 f4 f5
    obtain ⟨oi, q1, q2, q3⟩ := id st2
    exact ⟨en.key, rfl, go_of (s := { s with heap := h2 }) q1 q2 q3 (by decide) ⟨v, H, I2, ren, ⟨rfl, hv⟩, st2, fun b hb => (own b hb).1⟩⟩
  · intro X hP hw hK calm i pins s σ H E I own st hg
    obtain ⟨⟨hd, ky⟩, le⟩ := hg
    obtain ⟨f0, f1, f2, f3, f4, f5⟩ := own it (by simp)
    obtain ⟨hgd, rel⟩ := look hP hw I hd ky
    subst hP hw
    exact next_key_end (I.ok.hd calm) st hgd hod (kys_len (d := d) rel) le fun h2 eb => ⟨rfl, I.turned (t' := s.toks) (fun b ob hb e => eb b ob hb e) f0 f1 f3 f4 f5⟩
  · exact fun A i s Q E st h => wpAny_pyIter_keyiter st h
section
variable {X : Cx} {tg l : Expr} {tl : TE}
def iAnyW (K : PySem.W.Frag) (P : Program) (w : World) (tl : TE) : TI := fun σ H R => tl σ H fun x H1 => (∃ a xs, x = V.ref a ∧ SqL K H1 a xs ∧ (xs.length ≤ sizeLine → R (Itl K a) H1)) ∨ (∃ a xs, x = V.ref a ∧ SqT K H1 a xs ∧ (xs.length ≤ sizeLine → R (Itt K a) H1)) ∨ (∃ z, x = V.str z ∧ R (Its z) H1) ∨
  ∃ d o u vs, x = V.ref d ∧ H1 d = some (.frz o u) ∧ KysU P w d u vs ∧ R (Itq P w d o u vs) H1
theorem pi_anyW (hl : PE X l tl) : PI X tg l (iAnyW X.K X.prog X.w tl) := by
  refine ⟨fun pins s σ H R I want => thn (hl.run pins s σ H _ I want) fun v s1 ⟨x, H1, I1, r1, q1⟩ => ?_⟩
  have one : ∀ {b : Addr} {h0 : Heap} {tk : Nat}, b = h0.objs.size → h0 = s1.heap → ∀ c ∈ [b], FpOk X pins H1 c := fun {b h0 tk} e1 e2 c hc => by
    obtain rfl : c = b := by simpa using hc
    rw [e1, e2]
    exact I1.fpOk (Nat.le_refl _) (I1.hok.fresh (Nat.le_refl _))
  rcases q1 with ⟨a, xs, rfl, hq, q⟩ | ⟨a, xs, rfl, hq, q⟩ | ⟨z, rfl, q⟩ | ⟨d, o, u, vs, rfl, hd, ky, q⟩
  · cases r1
    obtain ⟨its, rv, pl, few⟩ := I1.list hq
    exact wpAny_pyIter_list pl.isList ⟨_, [s1.heap.objs.size], _, _, H1, rfl, I1.kept (t' := s1.toks) (fun b o e => Heap.get?_push_of_some _ e), turn_list a _, ⟨_, Heap.get?_push_size _ rfl, rfl, rfl⟩, one (h0 := s1.heap) (tk := 0) rfl rfl, q few⟩
  · cases r1
    obtain ⟨its, rv, pl, few⟩ := I1.tuple hq
    exact wpAny_pyIter_tuple pl ⟨_, [s1.heap.objs.size], _, _, H1, rfl, I1.kept (t' := s1.toks) (fun b o e => Heap.get?_push_of_some _ e), turn_tuple a _, ⟨_, Heap.get?_push_size _ rfl, rfl, rfl⟩, one (h0 := s1.heap) (tk := 0) rfl rfl, q few⟩
  · obtain ⟨t, rfl⟩ := r1
    by_cases ha : z.cps.all (· < 128) = true
    · exact wpAny_pyIter_ascii ha (pi_one (tk := s1.toks) I1 _ (turn_str _ z t "str_ascii_iterator" (.inl rfl)) ⟨_, Heap.get?_push_size _ rfl, rfl, rfl⟩ q)
    · exact wpAny_pyIter_wide (by simpa using ha) (pi_one (tk := s1.toks) I1 _ (turn_str _ z t "str_iterator" (.inr rfl)) ⟨_, Heap.get?_push_size _ rfl, rfl, rfl⟩ q)
  · cases r1
    obtain ⟨hgd, ok⟩ := I1.hok d _ hd
    obtain ⟨sy, o', es, ep, h1, h2, h3, rel⟩ := kys_raw ky ok
    rw [hgd] at h1; cases h1
    refine iter_keys sy hgd h2 h3 (pi_one (tk := s1.toks) I1 _ (turn_q _ h3) ⟨_, Heap.get?_push_size _ rfl, rfl, ?_⟩ q)
    rw [kys_len (d := d) rel] <;> rfl
def rSortD (K : PySem.W.Frag) (P : Program) (w : World) : List V → Hp → VK → Prop := fun vs H Q => ∃ (d : Addr) (u : HO) (xs : List VP), vs = [V.ref d] ∧ Rd H d u ∧ KysU P w d u (xs.map (·.1)) ∧ xs.length ≤ sizeLine ∧ (∀ x ∈ xs, Dp K H x.1 (PV.toD x.2)) ∧ Sortd (xs.map (·.2)) ∧
  ∀ ys : List VP, ys = xs.mergeSort (PySem.W.dataLe false fun x : VP => PV.toD x.2) → ∀ p, H p = none → Q (.ref p) (L2.upd H p (.lst (ys.map (·.1))))
theorem items_vals {acc : Array Value} {vs : List V} {es : Array DictEntry} (r : Vals vs (es.toList.map (·.key))) (h : ItemsOf (fun i v => ∃ en : DictEntry, es[i]? = some en ∧ v = en.key) acc es.size) : Vals vs acc.toList := by
  have e : acc.toList = es.toList.map (·.key) := by
    refine List.ext_getElem? fun i => ?_
    rw [List.getElem?_map, Array.getElem?_toList, Array.getElem?_toList]
    cases q : acc[i]? with
    | none =>
      have : es[i]? = none := by
        rw [Array.getElem?_eq_none_iff] at q ⊢
        rw [h.1] at q; exact q
      rw [this]; rfl
    | some v =>
      obtain ⟨en, e1, e2⟩ := h.2 i v q
      rw [e1, e2]; rfl
  rw [e]; exact r
theorem cr_sortD (calm : X.calm = true) (hu : X.A.units + 64 < cLine) : CallR X (.builtin "sorted") (rSortD X.K X.prog X.w) := by
  intro pins s σ H vs us Q I r h
  obtain ⟨d, u, xs, rfl, hd, ky, few, hdp, ⟨_, al, so, dp⟩, k⟩ := h
  rw [Vals.ref1 r]
  rw [List.map_map] at al so
  have depth : ∀ b, b ∈ xs → X.A.units + 2 + (PV.toD b.2).depth < cLine := fun b hb => by
    have := dp b.2 (List.mem_map.mpr ⟨b, hb, rfl⟩); omega
  obtain ⟨sy, o, es, ep, h1, h2, h3, rel⟩ := kys_raw ky (hd.ok I.hok)
  have sz : es.size = xs.length := by rw [kys_len (d := d) rel, List.length_map]
  refine Calls.call_function_entry PyProof.Rows.kind_sorted PyProof.Rows.plain_sorted PyProof.Rows.entry_sorted (PyProof.Rows.args_sorted1 _) ?_
  unfold Builtin.«sorted»
  refine wpAny_bind (m := checkCount "sorted" 1 1 _) (wpAny_pure ?_)
  refine wpAny_bind (PySem.W.kdu_collect (A := X.A.in1) (kdl_raw sy h2 h3) (I.ok.hd calm) h1 (by rw [sz]; exact few) fun h' tk acc hk hacc => ?_)
  have rv : Vals (xs.map (·.1)) acc.toList := items_vals rel hacc
  have I1 : L2.Inv X pins σ H { s with heap := h', toks := tk } := I.kept hk
  have hal : acc.toList.length = xs.length := by rw [← rv.length, List.length_map]
  refine wpAny_bind (wpAny_newList ?_ (by rw [hal]; exact few))
  generalize eL : h'.objs.size = L
  have hoL : (h'.push (seqObj "list" acc.toList.toArray 0)).get? L = some (seqObj "list" acc.toList.toArray 0) := by subst eL; exact Heap.get?_push_size _ rfl
  show wpAny _ _ _ _ _ { s with heap := h'.push (seqObj "list" acc.toList.toArray 0), toks := tk }
  have old : ∀ b ob, h'.get? b = some ob → (PySem.W.sortingHeap (h'.push (seqObj "list" acc.toList.toArray 0)) L acc.toList).get? b = some ob := fun b ob e => by
    refine PySem.W.sortingHeap_old (fun z => ?_) (Heap.get?_push_of_some _ e)
    rw [z, ← eL] at e
    exact absurd (Heap.lt_size e) (Nat.lt_irrefl _)
  have er : PySem.W.EachIs (fun v (b : VP) => ∃ as, Reads (PySem.W.sortingHeap (h'.push (seqObj "list" acc.toList.toArray 0)) L acc.toList) v (PV.toD b.2) as) acc.toList xs := (each_reads I1 rv hdp).mono fun _ _ ⟨as, r⟩ => ⟨as, Reads.keeps old r⟩
  have S := PySem.W.SortsAt.data (prog := X.prog) (w := X.w) (A := X.A.in1.in1) (s := { s with heap := PySem.W.sortingHeap (h'.push (seqObj "list" acc.toList.toArray 0)) L acc.toList, toks := tk }) (PySem.W.each_map (R := fun v d => ∃ as, Reads (PySem.W.sortingHeap (h'.push (seqObj "list" acc.toList.toArray 0)) L acc.toList) v d as) (fun b : VP => PV.toD b.2) er) al so (PySem.W.bound_map depth)
  refine wpAny_bind (wpAny_holding (wpAny_call_entry_kw PyProof.Rows.slot_list_sort ⟨_, hoL, rfl⟩ PyProof.Rows.entry_list_sort (PySem.W.list_sort_vals (s := { s with heap := h'.push (seqObj "list" acc.toList.toArray 0), toks := tk }) hoL S (by rw [hal]; exact few) ?_) (PyProof.Rows.args_list_sort _)))
  have res := PySem.W.sortVals_data (R := fun u (x : VP) => RelV x.1 u) false (each_rel rv) er al
  have rl := rel_each res
  obtain ⟨c, hc⟩ := PyProof.Rows.sortedHeap_at (vs := acc.toList) (out := (PySem.W.sortVals _ false acc.toList acc.toList).toArray) hoL
  have len : ((xs.mergeSort (PySem.W.dataLe false fun x : VP => PV.toD x.2)).map (·.1)).length ≤ sizeLine := by
    rw [List.length_map, List.length_mergeSort]; exact few
  refine ⟨_, rfl, wpAny_pure ⟨_, rfl, .ref L, L2.upd H L (.lst ((xs.mergeSort (PySem.W.dataLe false fun x : VP => PV.toD x.2)).map (·.1))), I1.laid (t' := tk) (fun b ob e => ?_) (Nat.le_of_eq eL) ⟨len, _, c, rl, ?_⟩, rfl, k _ rfl _ (I1.hok.fresh (Nat.le_of_eq eL))⟩⟩
  · have lt := Heap.lt_size e
    rw [PyProof.Rows.sortedHeap_old (by rw [← eL]; exact Nat.ne_of_lt lt) (by rw [Heap.size_push]; exact Nat.lt_succ_of_lt lt)]
    exact Heap.get?_push_of_some _ e
  · exact hc
end
end CP
namespace CP
open PySem PySem.Spec PyProof.Rows L2
section
variable {X : Cx}
def rListD2 (P : Program) (w : World) : List V → Hp → VK → Prop := fun vs H Q => ∃ (d : Addr) (u : HO) (ks : List V), vs = [V.ref d] ∧ Rd H d u ∧ KysU P w d u ks ∧ ks.length ≤ sizeLine ∧ ∀ p, H p = none → Q (.ref p) (L2.upd H p (.lst ks))
theorem cr_listD2 (calm : X.calm = true) : CallR X (.type "list") (rListD2 X.prog X.w) := by
  intro pins s σ H vs us Q I r h
  obtain ⟨d, u, ks, rfl, hd, ky, few, k⟩ := h
  rw [Vals.ref1 r]
  obtain ⟨sy, o, es, ep, h1, h2, h3, rel⟩ := kys_raw ky (hd.ok I.hok)
  have sz : es.size = ks.length := kys_len (d := d) rel
  refine PySem.W.kdl_call (kdl_raw sy h2 h3) (I.ok.hd calm) h1 (by rw [sz]; exact few) fun h' tk acc c' hk hD hacc => ?_
  have hv : Vals ks acc.toList := items_vals rel hacc
  exact ⟨.ref s.heap.objs.size, L2.upd H s.heap.objs.size (.lst ks), I.laid (t' := tk) hk (Nat.le_refl _) ⟨few, acc.toList, c', hv, by rw [Array.toArray_toList]; exact hD⟩, rfl, k _ (I.hok.fresh (Nat.le_refl _))⟩
abbrev TG3 := NestedKey × Addr × V
def foldG (ts : List TG3) : CnG := ts.foldl (fun c t => putG c t.1 t.2.1 t.2.2) []
def rDictG (P : Program) (w : World) (K : PySem.W.Frag) : List V → Hp → VK → Prop := fun vs H Q => ∃ (a : Addr) (ts : List (Addr × TG3)), vs = [V.ref a] ∧ SqL K H a (ts.map fun t => V.ref t.1) ∧ (∀ t ∈ ts, SqT K H t.1 [V.ref t.2.2.1, t.2.2.2] ∧ KH H (.ref t.2.2.1) t.2.1 ∧ t.2.1.depth ≤ 8) ∧
  ∀ p, H p = none → Q (.ref p) (L2.upd H p (DctG P w p (foldG (ts.map (·.2)))))
theorem tups_vals {pins : List (Addr × PySem.Obj)} {σ : L2.St} {H : Hp} {s : Shared} (I : L2.Inv X pins σ H s) : ∀ {ts : List (Addr × TG3)}, (∀ t ∈ ts, SqT X.K H t.1 [V.ref t.2.2.1, t.2.2.2]) →
    ∃ qs : List ((Addr × TG3) × Value), qs.map (·.1) = ts ∧ ∀ q ∈ qs, RelV q.1.2.2.2 q.2 ∧ PairAt s.heap q.1.1 (.ref q.1.2.2.1) q.2
  | [], _ => ⟨[], rfl, fun _ z => nomatch z⟩
  | t :: ts, h => by
    obtain ⟨qs, e, a⟩ := tups_vals I (ts := ts) fun q hq => h q (List.mem_cons_of_mem _ hq)
    obtain ⟨its, r, ht, _⟩ := I.tuple (h t List.mem_cons_self)
    obtain ⟨v1, v2, rfl, r1, r2⟩ := vals2 r
    cases (show v1 = Value.ref t.2.2.1 from r1)
    refine ⟨(t, v2) :: qs, by rw [List.map_cons, e], fun q hq => ?_⟩
    rcases List.mem_cons.mp hq with rfl | hq
    · exact ⟨r2, .inl ht⟩
    · exact a q hq
theorem fold_like : ∀ {qs : List ((Addr × TG3) × Value)} {c : CnG} {us : List (NestedKey × Addr × Value)}, (∀ q ∈ qs, RelV q.1.2.2.2 q.2) → Paired LikeG c us → Paired LikeG ((qs.map fun q => q.1.2).foldl (fun c t => putG c t.1 t.2.1 t.2.2) c) ((qs.map fun q => (q.1.2.1, q.1.2.2.1, q.2)).foldl (fun acc p => storedH acc p.1 p.2.1 p.2.2) us)
  | [], _, _, _, h => h
  | q :: qs, _, _, hr, h => fold_like (qs := qs) (fun x hx => hr x (List.mem_cons_of_mem _ hx)) (likeG_put (hr q List.mem_cons_self) h)
theorem cr_dictG (calm : X.calm = true) (hu : X.A.units + 64 < cLine) : CallR X (.type "dict") (rDictG X.prog X.w X.K) := by
  intro pins s σ H vs us Q I r h
  obtain ⟨a, ts, rfl, ha, ht, k⟩ := h
  rw [Vals.ref1 r]
  obtain ⟨its, rv, pl, hz⟩ := I.list ha
  have ei := refs_only (κ := TG3) rv
  subst ei
  obtain ⟨qs, rfl, hq⟩ := tups_vals I fun t h => (ht t h).1
  obtain ⟨o, n, ho, hc, hd, hdat⟩ := pl
  rw [List.length_map, List.length_map] at hz
  have at_ : ∀ {j : Nat} {q : (Addr × TG3) × Value}, qs[j]? = some q → q ∈ qs := fun e => List.mem_of_getElem? e
  refine call_dict_pairsH (knd := nestedKind X.prog X.w) (ps := qs.map fun q => (q.1.2.1, q.1.2.2.1, q.2))
    (PairArg.list a _ (fun j => ((qs[j]?).map (·.1.1)).getD 0) (qs.map fun q => (Value.ref q.1.2.2.1, q.2))) (I.ok.hd calm) (by show X.A.units + 1 + 1 + 8 < cLine; omega) ⟨⟨o, n, ho, hc, hd, hdat⟩, ?_⟩ ⟨by simp, ?_⟩ ?_ (by rw [List.length_map]; exact hz) fun h' tk hd' kp => ?_
  · refine ⟨by simp, fun j kk v e => ?_⟩
    rw [List.getElem?_map] at e
    cases c : qs[j]? with
    | none => rw [c] at e; cases e
    | some q =>
      rw [c] at e
      cases Option.some.inj e
      refine ⟨by simp [c], ?_⟩
      have := (hq q (at_ c)).2
      simpa [c] using this
  · intro i key v e
    have e : (qs.map fun q => (Value.ref q.1.2.2.1, q.2))[i]? = some (key, v) := e
    rw [List.getElem?_map] at e
    cases c : qs[i]? with
    | none => rw [c] at e; cases e
    | some q =>
      rw [c] at e
      cases Option.some.inj e
      exact ⟨q.1.2.1, q.1.2.2.1, by rw [List.getElem?_map, c]; rfl, rfl⟩
  · intro h2 keep x hx
    obtain ⟨q, hq', rfl⟩ := List.mem_map.mp hx
    obtain ⟨_, e1, e2⟩ := ht q.1 (List.mem_map.mpr ⟨q, hq', rfl⟩)
    refine ⟨NestedIs.at (fun b ob vs m h _ => ?_) _ _ (e1.is I rfl), e2⟩
    exact keep _ _ (Nat.ne_of_lt (Heap.lt_size h)) (by simp) h
  · have hm : (s.heap.objs.size == sysModules) = false := beq_eq_false_iff_ne.mpr (Nat.ne_of_gt I.big)
    have L := fold_like (fun q h => (hq q h).1) (.nil : Paired LikeG [] [])
    have kp' : ∀ b u, s.heap.get? b = some u → h'.get? b = some u := fun b u e => kp b u (by simp) e
    refine ⟨.ref s.heap.objs.size, L2.upd H s.heap.objs.size (DctG X.prog X.w s.heap.objs.size (foldG ((qs.map (·.1)).map (·.2)))), I.laid (t' := tk) kp' (Nat.le_refl _) (dctG_ok (dctGI_of hm hd' ?_)), rfl, k _ (I.hok.fresh (Nat.le_refl _))⟩
    unfold foldG storedAllH
    rw [List.map_map]
    exact L
end
section
variable {G : Gh} {lv : Nat} {X : Cx} {a b c o : Expr} {es : List Expr} {qa qb : QE} {qA : QAs} {qB : QBs} {pos p apos cpos tpos : Pos} {e : PEnv} {M : Addr → Prop} {σ : L2.St} {H : Hp} {tg : Expr}
theorem kys_of {u : HO} {d : Addr} {ps : List (PV × PV)} (h : Rd H d u) (dv : (∃ kvs : List (Key × V), u = .dK kvs ∧ ps.map (·.1) = kvs.map (fun p => keyP p.1) ∧ RepAll G.toEn H M (kvs.map (·.2)) (ps.map (·.2))) ∨ ∃ c, u = DctG G.P G.w d c ∧ RepAll G.toEn H M (c.map fun x => .ref x.2.1) (ps.map (·.1)) ∧ (ps.all fun p => PV.keyB p.1) = true ∧ c.map (·.1) = ps.map (fun p => PV.nk p.1) ∧ RepAll G.toEn H M (c.map (·.2.2)) (ps.map (·.2))) :
    ∃ vs, KysU G.P G.w d u vs ∧ RepAll G.toEn H M vs (ps.map (·.1)) := by
  rcases dv with ⟨kvs, rfl, h1, h2⟩ | ⟨c, rfl, h1, _⟩
  · refine ⟨_, .inl ⟨kvs, rfl, rfl⟩, ?_⟩
    rw [h1]
    clear h1 h2 h
    induction kvs with
    | nil => exact .nil
    | cons kv kvs ih =>
      refine .cons ?_ ih
      show Rep G.toEn H M (kV kv.1) (keyP kv.1)
      cases kv.1 with
      | inl i => exact .int i
      | inr x => exact .str x
  · exact ⟨_, .inr ⟨c, rfl, rfl⟩, h1⟩
theorem dview_u {d : Addr} {ps : List (PV × PV)} (dv : DView G.toEn H M d ps) : ∃ u vs, Rd H d u ∧ KysU G.P G.w d u vs ∧ RepAll G.toEn H M vs (ps.map (·.1)) := by
  rcases dv with ⟨kvs, h1, h2, h3⟩ | ⟨c, h1, h2, h3, h4, h5⟩
  · obtain ⟨vs, q1, q2⟩ := kys_of (G := G) h1 (.inl ⟨kvs, rfl, h2, h3⟩)
    exact ⟨_, vs, h1, q1, q2⟩
  · obtain ⟨vs, q1, q2⟩ := kys_of (G := G) h1 (.inr ⟨c, rfl, h2, h3, h4, h5⟩)
    exact ⟨_, vs, h1, q1, q2⟩
theorem walks_q {d : Addr} {ob : PySem.Obj} {u : HO} {vs : List V} {items : List PV} (hd : H d = some (.frz ob u)) (nm : ¬ M d) (k : KysU G.P G.w d u vs) (r : RepAll G.toEn H M vs items) : Walks G (Itq G.P G.w d ob u vs) items H M := fun H2 M2 s _ => by
  have hd2 := s.keep _ _ hd nm
  refine ⟨fun i p hp => ?_, ⟨⟨hd2, k⟩, by rw [r.length]; exact Nat.le_refl _⟩⟩
  obtain ⟨v, hv, rv⟩ := r.get' hp
  have li := (List.getElem?_eq_some_iff.mp hv).1
  refine ⟨⟨⟨hd2, k⟩, li⟩, fun x H3 y => ?_⟩
  obtain ⟨rfl, hx⟩ := y
  rw [hv] at hx; cases hx
  exact ⟨.inl rfl, rv.step s⟩
def itemsU (p : PV) (k : List PV → Prop) : Prop := match p with
  | .dic ps => ps.length ≤ SZ ∧ k (ps.map (·.1))
  | p => itemsOf p k
def iqAny (q : QE) : QI := fun e K => q e fun r e1 => keep r e1 fun p e2 => itemsU p fun xs => K xs e2
theorem i_any (g : Good G lv X) (ha : PE X a (LE G qa)) : PI X tg a (LI G (iqAny qa)) := PI.imp (g.K ▸ g.P ▸ g.w ▸ pi_anyW ha : PI X tg a (iAnyW G.K G.P G.w (LE G qa))) fun σ H R ⟨e, M, K, S, q, f⟩ => ⟨e, M, _, S, q, fun r e1 k1 v H1 M1 S1 s1 R1 => by
  obtain ⟨p, e2, M2, k2, S2, s2, R2⟩ := keep_ok S1 R1 k1
  have st := s1.trans s2
  cases p with
  | dic ps =>
    have k2 : ps.length ≤ SZ ∧ K (ps.map (·.1)) e2 := k2
    obtain ⟨few, k2⟩ := k2
    have len : (ps.map (·.1)).length ≤ sizeLine := by rw [List.length_map]; exact sz_fits few
    cases R2 with
    | dicK h n ek rr =>
      obtain ⟨vs, q1, q2⟩ := kys_of (G := G) (.inr ⟨_, h⟩) (.inl ⟨_, rfl, ek, rr⟩)
      exact .inr (.inr (.inr ⟨_, _, _, vs, rfl, h, q1, f _ e2 k2 len _ H1 M2 S2 st (walks_q h n q1 q2)⟩))
    | dicG h n rk ko ek rr =>
      obtain ⟨vs, q1, q2⟩ := kys_of (G := G) (.inr ⟨_, h⟩) (.inr ⟨_, rfl, rk, ko, ek, rr⟩)
      exact .inr (.inr (.inr ⟨_, _, _, vs, rfl, h, q1, f _ e2 k2 len _ H1 M2 S2 st (walks_q h n q1 q2)⟩))
  | lst xs => cases R2 with
    | lst sl rr => exact .inl ⟨_, _, rfl, sl.sq, fun hl => f _ e2 k2 (by rw [← rr.length]; exact hl) _ H1 M2 S2 st (walks_at walk_list (fun H3 M3 s3 => (s3.stayL sl).sq) rr)⟩
  | tup xs => cases R2 with
    | tup sl rr => exact .inr (.inl ⟨_, _, rfl, sl.sq, fun hl => f _ e2 k2 (by rw [← rr.length]; exact hl) _ H1 M2 S2 st (walks_at walk_tup (fun H3 M3 s3 => (s3.stayT sl).sq) rr)⟩)
  | str z =>
    cases R2
    exact .inr (.inr (.inl ⟨z, rfl, f _ e2 k2.2 (by unfold signs; rw [List.length_map, Array.length_toList]; exact sz_fits k2.1) _ H1 M2 S2 st walks_str⟩))
  | _ => exact (show False from k2).elim⟩
def gSortedU (ps : List PV) (k : QV → Prop) : Prop := match ps with
  | [.dic qs] => (qs.length ≤ SZ ∧ Sortd (qs.map (·.1))) ∧ k (.fr (.lst (sortP (qs.map (·.1)))))
  | _ => gSorted ps k
theorem l_sortedU : LiftC G (fun vs H Q => rSortQ G.K vs H Q ∨ rSortD G.K G.P G.w vs H Q) gSortedU := fun e M σ H vs ps Q k S a g f => by
  unfold gSortedU at g
  split at g
  · rename_i qs
    obtain ⟨⟨few, so⟩, g⟩ := g
    obtain ⟨v, rfl, b⟩ := acc1 a
    obtain ⟨d, rfl, dv⟩ := b.dic
    obtain ⟨u, ks, h1, h2, h3⟩ := dview_u dv
    obtain ⟨q1, q2, q3⟩ := zip_rep h3
    have hl : (ks.zip (qs.map (·.1))).length = qs.length := by rw [← List.length_map (f := (·.2)), q2, List.length_map]
    refine .inr ⟨d, u, ks.zip (qs.map (·.1)), rfl, h1, by rw [q1]; exact h2, by rw [hl]; exact sz_fits few, fun z hz => ?_, by rw [q2]; exact so, fun ys hy p hp => ?_⟩
    · refine (q3 z hz).dp ?_
      have := so.1
      rw [isDs_all] at this
      exact List.all_eq_true.mp this z.2 (by rw [← q2]; exact List.mem_map.mpr ⟨z, hz, rfl⟩)
    · have perm := List.mergeSort_perm (ks.zip (qs.map (·.1))) (PySem.W.dataLe false fun x : VP => PV.toD x.2)
      rw [← hy] at perm
      have rr : RepAll G.toEn H M (ys.map (·.1)) (ys.map (·.2)) := rep_zip fun z hz => q3 z (perm.mem_iff.mp hz)
      have e2 : ys.map (·.2) = sortP (qs.map (·.1)) := by rw [hy, sort_map, q2]
      rw [e2] at rr
      obtain ⟨S', st, rs⟩ := S.newLst hp rr
      exact f _ g _ _ _ S' st rs
  · exact .inl (l_sorted e M σ H vs ps Q k S a g f)
theorem q_sortedU (g : Good G lv X) (hm : X.mg "sorted" = none) (ha : PA X (a :: es) (LB G qB)) (hg : Gl X "sorted" := by rfl) (he : starEach (a :: es) X.env = (false, eval a X.env) :: starEach es X.env := by rfl) (hpl : (backTo pos (starEach es X.env)).any (·.1) = false := by rfl) :
    PE X (.Call (.Name "sorted" p) (a :: es) [] pos) (LE G (qCB gSortedU qB)) := q_cb (CallR.or (g.K ▸ cr_sortQ g.units : CallR X (.builtin "sorted") (rSortQ G.K)) (g.K ▸ g.P ▸ g.w ▸ cr_sortD g.calm g.units : CallR X (.builtin "sorted") (rSortD G.K G.P G.w))) l_sortedU hg hm (by decide +kernel) ha (by decide) (by decide) he hpl
def gListU (ps : List PV) (k : QV → Prop) : Prop := match ps with
  | [.dic qs] => qs.length ≤ SZ ∧ k (.fr (.lst (qs.map (·.1))))
  | _ => gList ps k
theorem l_listU : LiftC G (fun vs H Q => rListQ G.K vs H Q ∨ rListD2 G.P G.w vs H Q) gListU := fun e M σ H vs ps Q k S a g f => by
  unfold gListU at g
  split at g
  · rename_i qs
    obtain ⟨few, g⟩ := g
    obtain ⟨v, rfl, b⟩ := acc1 a
    obtain ⟨d, rfl, dv⟩ := b.dic
    obtain ⟨u, ks, h1, h2, h3⟩ := dview_u dv
    refine .inr ⟨d, u, ks, rfl, h1, h2, by rw [h3.length, List.length_map]; exact sz_fits few, fun p hp => ?_⟩
    obtain ⟨S', st, rs⟩ := S.newLst hp h3
    exact f _ g _ _ _ S' st rs
  · exact .inl (l_list e M σ H vs ps Q k S a g f)
theorem q_listU (g : Good G lv X) (hm : X.mg "list" = none) (ha : PA X (a :: es) (LB G qB)) (hg : Gl X "list" := by rfl) (he : starEach (a :: es) X.env = (false, eval a X.env) :: starEach es X.env := by rfl) (hpl : (backTo pos (starEach es X.env)).any (·.1) = false := by rfl) :
    PE X (.Call (.Name "list" p) (a :: es) [] pos) (LE G (qCB gListU qB)) := q_cty (CallR.or (cr_listQ g.K) (g.P ▸ g.w ▸ cr_listD2 g.calm : CallR X (.type "list") (rListD2 G.P G.w))) l_listU hg hm (by decide +kernel) ha (by decide) (by decide) he hpl
def pairsOf : List PV → Option (List (PV × PV))
  | [] => some []
  | .tup [k, v] :: xs => (pairsOf xs).map ((k, v) :: ·)
  | _ :: _ => none
theorem pairsOf_map {α : Type} (f g : α → PV) (xs : List α) : pairsOf (xs.map fun x => .tup [f x, g x]) = some (xs.map fun x => (f x, g x)) := by
  induction xs with
  | nil => rfl
  | cons x xs ih => show (pairsOf (xs.map fun x => .tup [f x, g x])).map _ = _; rw [ih]; rfl
def pmerge (ps : List (PV × PV)) : List (PV × PV) := ps.foldl (fun acc kv => pput acc kv.1 kv.2) []
def gDictP (tp : Bool) (ps : List PV) (k : QV → Prop) : Prop := match ps with
  | [.lst xs] => match pairsOf xs with
    | some qs => (qs.all fun q => keyA q.1 && (isT q.1 == tp)) = true ∧ k (.fr (.dic (pmerge qs)))
    | none => False
  | _ => False
theorem pairs_rep {H : Hp} {M : Addr → Prop} : ∀ {vs : List V} {xs : List PV} {qs : List (PV × PV)}, RepAll G.toEn H M vs xs → pairsOf xs = some qs → ∃ ts : List (Addr × V × V), vs = ts.map (fun t => V.ref t.1) ∧ (∀ t ∈ ts, Rd H t.1 (.tup [t.2.1, t.2.2])) ∧ RepAll G.toEn H M (ts.map (·.2.1)) (qs.map (·.1)) ∧ RepAll G.toEn H M (ts.map (·.2.2)) (qs.map (·.2))
  | _, [], qs, r, h => by cases h; cases r; exact ⟨[], rfl, (fun _ z => nomatch z), .nil, .nil⟩
  | _, x :: xs, qs, r, h => by
    cases r with
    | cons r0 rt =>
      unfold pairsOf at h
      split at h
      · rename_i hx; cases hx
      · rename_i k v ys hx
        obtain ⟨e1, e2⟩ := List.cons.inj hx
        subst e1 e2
        cases c : pairsOf xs with
        | none => rw [c] at h; cases h
        | some qs' =>
          rw [c] at h; cases h
          obtain ⟨ts, q1, q2, q3, q4⟩ := pairs_rep rt c
          cases r0 with
          | tup st rr =>
            obtain ⟨v1, v2, rfl, r1, r2⟩ := rep2 rr
            refine ⟨(_, v1, v2) :: ts, by rw [q1]; rfl, fun t ht => ?_, .cons r1 q3, .cons r2 q4⟩
            rcases List.mem_cons.mp ht with rfl | ht
            · exact st.rd
            · exact q2 t ht
      · cases h
theorem fold_k : ∀ {ts : List (Key × V)} {qs : List (PV × PV)} {kvs : List (Key × V)} {ps : List (PV × PV)}, qs.map (·.1) = ts.map (fun t => keyP t.1) → RepAll G.toEn H M (ts.map (·.2)) (qs.map (·.2)) → ps.map (·.1) = kvs.map (fun p => keyP p.1) → RepAll G.toEn H M (kvs.map (·.2)) (ps.map (·.2)) →
    (qs.foldl (fun acc kv => pput acc kv.1 kv.2) ps).map (·.1) = (ts.foldl (fun acc kv => putK acc kv.1 kv.2) kvs).map (fun p => keyP p.1) ∧ RepAll G.toEn H M ((ts.foldl (fun acc kv => putK acc kv.1 kv.2) kvs).map (·.2)) ((qs.foldl (fun acc kv => pput acc kv.1 kv.2) ps).map (·.2))
  | [], [], _, _, _, _, h1, h2 => ⟨h1, h2⟩
  | [], q :: qs, _, _, e, _, _, _ => by cases e
  | t :: ts, [], _, _, e, _, _, _ => by cases e
  | t :: ts, q :: qs, kvs, ps, e, r, h1, h2 => by
    cases r with
    | cons r0 rt =>
      obtain ⟨e1, e2⟩ := List.cons.inj e
      have e1 : q.1 = keyP t.1 := e1
      obtain ⟨g1, g2⟩ := put_k (k := t.1) r0 h1 h2
      rw [List.foldl_cons, List.foldl_cons, e1]
      exact fold_k e2 rt g1 g2
theorem fold_g : ∀ {ts : List TG3} {qs : List (PV × PV)} {c : CnG} {ps : List (PV × PV)}, RepAll G.toEn H M (ts.map fun t => V.ref t.2.1) (qs.map (·.1)) → (qs.all fun p => PV.keyB p.1) = true → ts.map (·.1) = qs.map (fun p => PV.nk p.1) → RepAll G.toEn H M (ts.map (·.2.2)) (qs.map (·.2)) →
    RepAll G.toEn H M (c.map fun x => .ref x.2.1) (ps.map (·.1)) → (ps.all fun p => PV.keyB p.1) = true → c.map (·.1) = ps.map (fun p => PV.nk p.1) → RepAll G.toEn H M (c.map (·.2.2)) (ps.map (·.2)) →
    RepAll G.toEn H M ((ts.foldl (fun c t => putG c t.1 t.2.1 t.2.2) c).map fun x => .ref x.2.1) ((qs.foldl (fun acc kv => pput acc kv.1 kv.2) ps).map (·.1)) ∧ ((qs.foldl (fun acc kv => pput acc kv.1 kv.2) ps).all fun p => PV.keyB p.1) = true ∧ (ts.foldl (fun c t => putG c t.1 t.2.1 t.2.2) c).map (·.1) = (qs.foldl (fun acc kv => pput acc kv.1 kv.2) ps).map (fun p => PV.nk p.1) ∧ RepAll G.toEn H M ((ts.foldl (fun c t => putG c t.1 t.2.1 t.2.2) c).map (·.2.2)) ((qs.foldl (fun acc kv => pput acc kv.1 kv.2) ps).map (·.2))
  | [], [], _, _, _, _, _, _, h1, h2, h3, h4 => ⟨h1, h2, h3, h4⟩
  | [], q :: qs, _, _, r, _, _, _, _, _, _, _ => by cases r
  | t :: ts, [], _, _, r, _, _, _, _, _, _, _ => by cases r
  | t :: ts, q :: qs, c, ps, r1, o, e, r, h1, h2, h3, h4 => by
    cases r with
    | cons r0 rt =>
      cases r1 with
      | cons q0 qt =>
        rw [List.all_cons, Bool.and_eq_true_iff] at o
        obtain ⟨e1, e2⟩ := List.cons.inj e
        have e1 : t.1 = PV.nk q.1 := e1
        obtain ⟨g1, g2, g3, g4⟩ := put_g q0 o.1 r0 h1 h2 h3 h4
        rw [List.foldl_cons, List.foldl_cons, e1]
        exact fold_g qt o.2 e2 rt g1 g2 g3 g4
abbrev rDictKq (K : PySem.W.Frag) : List V → Hp → VK → Prop := fun xs H Q => ∃ (a : Addr) (ps : List Addr) (kvs : List (Key × V)), xs = [.ref a] ∧ SqL K H a (ps.map V.ref) ∧ Paired (fun p kv => SqT K H p [kV kv.1, kv.2]) ps kvs ∧ ∀ p, H p = none → Q (.ref p) (L2.upd H p (.dK (mergeK [] kvs)))
theorem keys_split : ∀ {ts : List (Addr × V × V)} {qs : List (PV × PV)}, RepAll G.toEn H M (ts.map (·.2.1)) (qs.map (·.1)) → (qs.all fun q => keyA q.1 && (isT q.1 == false)) = true → ∃ ks : List Key, ks.length = ts.length ∧ qs.map (·.1) = ks.map keyP ∧ ts.map (·.2.1) = ks.map kV
  | [], [], _, _ => ⟨[], rfl, rfl, rfl⟩
  | [], q :: qs, r, _ => by cases r
  | t :: ts, [], r, _ => by cases r
  | t :: ts, q :: qs, r, o => by
    cases r with
    | cons r0 rt =>
      rw [List.all_cons, Bool.and_eq_true_iff, Bool.and_eq_true_iff] at o
      obtain ⟨ks, h1, h2, h3⟩ := keys_split rt o.2
      rcases keyA_cases o.1.1 with ⟨k, e, _⟩ | ⟨_, it⟩
      · have r0 : Rep G.toEn H M t.2.1 q.1 := r0
        rw [e] at r0
        exact ⟨k :: ks, by simp [h1], by rw [List.map_cons, List.map_cons, h2, e], by rw [List.map_cons, List.map_cons, h3, rep_keyP r0]⟩
      · rw [it] at o; cases o.1.2
theorem keys_splitG : ∀ {ts : List (Addr × V × V)} {qs : List (PV × PV)}, RepAll G.toEn H M (ts.map (·.2.1)) (qs.map (·.1)) → (qs.all fun q => keyA q.1 && (isT q.1 == true)) = true → ∃ us : List (Addr × TG3), ts = us.map (fun u => (u.1, V.ref u.2.2.1, u.2.2.2)) ∧ (us.map (·.2)).map (·.1) = qs.map (fun p => PV.nk p.1) ∧ (qs.all fun p => PV.keyB p.1) = true ∧ ∀ u ∈ us, KH H (.ref u.2.2.1) u.2.1 ∧ u.2.1.depth ≤ 8
  | [], [], _, _ => ⟨[], rfl, rfl, rfl, fun _ z => nomatch z⟩
  | [], q :: qs, r, _ => by cases r
  | t :: ts, [], r, _ => by cases r
  | t :: ts, q :: qs, r, o => by
    cases r with
    | cons r0 rt =>
      rw [List.all_cons, Bool.and_eq_true_iff, Bool.and_eq_true_iff] at o
      obtain ⟨us, h1, h2, h3, h4⟩ := keys_splitG rt o.2
      rcases keyA_cases o.1.1 with ⟨k, _, it⟩ | ⟨kb, _⟩
      · rw [it] at o; cases o.1.2
      · have r0 : Rep G.toEn H M t.2.1 q.1 := r0
        obtain ⟨b, e, kh, dp⟩ := rep_keyB r0 kb
        refine ⟨(t.1, PV.nk q.1, b, t.2.2) :: us, by rw [h1, List.map_cons, ← e], by simp only [List.map_cons]; rw [h2], by rw [List.all_cons, kb, h3]; rfl, fun u hu => ?_⟩
        rcases List.mem_cons.mp hu with rfl | hu
        · exact ⟨e ▸ kh, dp⟩
        · exact h4 u hu
theorem l_dictP (tp : Bool) : LiftC G (fun vs H Q => rDictKq G.K vs H Q ∨ rDictG G.P G.w G.K vs H Q) (gDictP tp) := fun e M σ H vs ps Q k S a g f => by
  unfold gDictP at g
  split at g
  · obtain ⟨v, rfl, b⟩ := acc1 a
    obtain ⟨a1, us, rfl, s1, r1⟩ := b.lst
    split at g
    · rename_i qs hq
      obtain ⟨al, g⟩ := g
      obtain ⟨ts, rfl, h2, h3, h4⟩ := pairs_rep r1 hq
      cases tp with
      | false =>
        obtain ⟨ks, q1, q2, q3⟩ := keys_split h3 al
        refine .inl ⟨a1, ts.map (·.1), ks.zip (ts.map (·.2.2)), rfl, by rw [List.map_map]; exact s1, ?_, fun p hp => ?_⟩
        · clear s1 r1 h3 h4 q2 g al hq
          induction ts generalizing ks with
          | nil => cases ks with
            | nil => exact .nil
            | cons k ks => cases q1
          | cons t ts ih => cases ks with
            | nil => cases q1
            | cons k ks =>
              obtain ⟨e1, e2⟩ := List.cons.inj q3
              have e1 : t.2.1 = kV k := e1
              refine .cons ?_ (ih (fun t ht => h2 t (List.mem_cons_of_mem _ ht)) ks (by simpa using q1) e2)
              have := h2 t List.mem_cons_self
              rw [e1] at this
              exact .inl this
        · have e0 : (ks.zip (ts.map (·.2.2))).map (·.1) = ks := List.map_fst_zip (by rw [List.length_map]; omega)
          have z1 : (ks.zip (ts.map (·.2.2))).map (fun t => keyP t.1) = qs.map (·.1) := by
            have e3 : (ks.zip (ts.map (·.2.2))).map (fun t => keyP t.1) = ((ks.zip (ts.map (·.2.2))).map (·.1)).map keyP := by rw [List.map_map]; rfl
            rw [e3, e0, q2]
          have z2 : (ks.zip (ts.map (·.2.2))).map (·.2) = ts.map (·.2.2) := List.map_snd_zip (by rw [List.length_map]; omega)
          obtain ⟨g1, g2⟩ := fold_k (ts := ks.zip (ts.map (·.2.2))) (kvs := []) (ps := []) z1.symm (by rw [z2]; exact h4) rfl .nil
          obtain ⟨S', st, rs⟩ := S.newDic (o := .dK (mergeK [] (ks.zip (ts.map fun t : Addr × V × V => t.2.2)))) (ps := pmerge qs) hp fun s => .inl ⟨_, upd_same, g1, g2.step s⟩
          exact f _ g _ _ _ S' st rs
      | true =>
        obtain ⟨us, rfl, q2, q3, q4⟩ := keys_splitG h3 al
        rw [List.map_map] at s1 h3 h4
        refine .inr ⟨a1, us, rfl, s1, fun t ht => ⟨.inl (h2 _ (List.mem_map.mpr ⟨t, ht, rfl⟩)), q4 t ht⟩, fun p hp => ?_⟩
        obtain ⟨g1, g2, g3, g4⟩ := fold_g (ts := us.map (·.2)) (c := []) (ps := []) (by rw [List.map_map]; exact h3) q3 q2 (by rw [List.map_map]; exact h4) .nil rfl rfl .nil
        obtain ⟨S', st, rs⟩ := S.newDic (o := DctG G.P G.w p (foldG (us.map fun u : Addr × TG3 => u.2))) (ps := pmerge qs) hp fun s => .inr ⟨_, upd_same, g1.step s, g2, g3, g4.step s⟩
        exact f _ g _ _ _ S' st rs
    · exact g.elim
  · exact g.elim
theorem q_dictP (tp : Bool) (g : Good G lv X) (hm : X.mg "dict" = none) (ha : PA X (a :: es) (LB G qB)) (hg : Gl X "dict" := by rfl) (he : starEach (a :: es) X.env = (false, eval a X.env) :: starEach es X.env := by rfl) (hpl : (backTo pos (starEach es X.env)).any (·.1) = false := by rfl) :
    PE X (.Call (.Name "dict" p) (a :: es) [] pos) (LE G (qCB (gDictP tp) qB)) := q_cty (CallR.or (g.K ▸ call_dictP g.calm : CallR X (.type "dict") (rDictKq G.K)) (g.P ▸ g.w ▸ g.K ▸ cr_dictG g.calm g.units : CallR X (.type "dict") (rDictG G.P G.w G.K))) (l_dictP tp) hg hm (by decide +kernel) ha (by decide) (by decide) he hpl
end
end CP
namespace CP
open PySem PySem.Spec PyProof.Rows L2
section
variable {X : Cx} {pins : List (Addr × PySem.Obj)} {σ : L2.St} {H : Hp} {s : Shared}
theorem setG_get {a : Addr} {L : List (Addr × KN)} (I : L2.Inv X pins σ H s) (ha : H a = some (SetG X.prog X.w a L)) (hk : ∀ p ∈ L, KH H (.ref p.1) p.2.1) : ∃ es ep t, SK (nkF X.prog X.w) s.heap a L es ep t := by
  obtain ⟨es, ep, t, h1, h2, h3, h4, h5, h6, h7⟩ := (I.hok a _ ha).1
  exact ⟨es, ep, t, h1, h2, h3, h4, fun p hp => (hk p hp).is I rfl, h5, h6, h7⟩
def rSInG (P : Program) (w : World) : V → V → Hp → VK → Prop := fun x y H Q => ∃ (b a : Addr) (k : KN) (L : List (Addr × KN)), x = .ref b ∧ y = V.ref a ∧ H a = some (SetG P w a L) ∧ (∀ p ∈ L, KH H (.ref p.1) p.2.1) ∧ KH H (.ref b) k.1 ∧ Q (.bl (decide (k ∈ L.map (·.2)))) H
theorem or_sinG (hu : X.A.units + 64 < cLine) : OpR X (compareOp .In) (rSInG X.prog X.w) := by
  intro pins s σ H x y v u Q I rx ry h
  obtain ⟨b, a, k, L, rfl, rfl, ha, hk, hb, q⟩ := h
  cases rx
  cases ry
  obtain ⟨es, ep, t, R⟩ := setG_get I ha hk
  obtain ⟨o, ho, hex, hd⟩ := R.obj
  have ty : s.TypeIs (.ref a) "set" := ⟨o, ho, hex.1⟩
  show wpAny _ _ (do return Value.bool (← contains (.ref a) (.ref b))) _ _ s
  refine wpAny_bind ?_
  unfold contains
  try with_reducible refine wpAny_holding ?_
  refine wpAny_bind (wpAny_specialOf ty PySem.F.slot_set_contains.lookup ?_)
  rw [if_neg (by rw [beq_builtin_none]; exact Bool.false_ne_true)]
  refine wpAny_bind (wpAny_callSpecialUnlessNone?_slot (name := Str.ofString "__contains__") ty PySem.F.slot_set_contains (wpAny_call_entry PySem.F.slot_set_contains ty PySem.entry_set_contains ?_ (PySem.F.args_set_contains_2 _ _)))
  unfold Builtin.«frozenset.__contains__» Builtin.Frozenset.oneOther
  simp only [List.isEmpty_nil, bind_assoc]
  unfold Builtin.Frozenset.addrOf Builtin.Frozenset.withSetAsKey setContains
  refine wpAny_bind (wpAny_pure ?_)
  try dsimp only
  refine wpAny_bind (wpAny_pure ?_)
  try dsimp only
  refine wpAny_bind (wpAny_tryCatch (wpAny_holding (wpAny_bind ((nkF X.prog X.w).pyh (by simp; omega) (hb.is I rfl) fun tn => ?_))))
  refine wpAny_bind (find_in (s := { s with toks := s.toks + tn }) R (show (nkF X.prog X.w).At s.heap k b from hb.is I rfl) (by simp; omega) fun r hr => wpAny_pure ?_)
  show wpAny _ _ (ret (Value.bool r.isSome)) _ _ _
  have hr2 : r.isSome = decide (k ∈ L.map (·.2)) := hr.trans (decide_eq_decide.mpr Iff.rfl)
  rw [hr2]
  exact wpAny_pure ⟨_, rfl, wpAny_truthy_bool (wpAny_pure ⟨.bl _, H, I.tok _, rfl, q⟩)⟩
end
section
variable {X : Cx} {e : Expr} {te : TE} {p p2 q pos : Pos}
def lenAlt (H : Hp) (vs : List V) (k : Nat → Prop) : Prop := (∃ xs : List Str, vs = xs.map V.str ∧ xs.length < 300 ∧ ∀ n : Nat, n ≤ xs.length → (n = xs.length ↔ xs.Nodup) → k n) ∨
  ∃ ks : List (Addr × KN), vs = ks.map (fun p => V.ref p.1) ∧ (∀ p ∈ ks, KH H (.ref p.1) p.2.1) ∧ ks.length < 300 ∧ ∀ n : Nat, n ≤ ks.length → (n = ks.length ↔ (ks.map (·.2)).Nodup) → k n
def tLenSetU (K : PySem.W.Frag) (te : TE) : TE := fun σ H Q => te σ H fun x H1 => ∃ (l : Addr) (vs : List V), x = V.ref l ∧ (SqL K H1 l vs ∨ SqT K H1 l vs) ∧ lenAlt H1 vs fun n => Q (.int (n : Int)) H1
theorem pe_lenSetU (hc : X.calm = true) (hg : Gl X "len") (hm : X.mg "len" = none) (hg2 : Gl X "set") (hm2 : X.mg "set" = none) (hu : X.A.units + 64 < cLine) (he : PE X e te)
    (na : starEach [e] X.env = (false, eval e X.env) :: starEach [] X.env := by rfl) : PE X (.Call (.Name "len" p) [.Call (.Name "set" p2) [e] [] q] [] pos) (tLenSetU X.K te) := by
  refine ⟨fun pins s σ H Q I h => Call_ (ld_blt I hg hm PySem.boot_len ?_)⟩
  refine PyProof.Rows.callWith_builtin1 (PyProof.Rows.args_cons ?_ rfl) rfl rfl
  refine Call_ (ld_blt I hg2 hm2 PyProof.Rows.boot_set ?_)
  refine PyProof.Rows.callWith_type1 (PyProof.Rows.args_cons (thn (he.run pins s σ H _ I h) fun v s1 ⟨x, H1, I1, r1, l, vs, ex, hq, alt⟩ => PyProof.Rows.args_nil ?_) na) na rfl
  subst ex; cases r1
  rcases alt with ⟨xs, rfl, few, k⟩ | ⟨ks, rfl, hks, few, k⟩
  · rcases hq with hq | hq
    · obtain ⟨its, r, pl, _⟩ := I1.list hq
      refine set_of_list (I1.ok.hd hc) pl.isList (fun E => fills_txts (xs := xs) (by simpa using r) (by unfold scanBound; omega)) fun h' tk ⟨n, ⟨o, es, ep, t, ho, hex, hd, _, _, _, hf, hn⟩, c1, c2, c3⟩ keep => ?_
      have sz : its.toArray.size = xs.length := by rw [List.size_toArray, ← r.length, List.length_map]
      rw [sz] at c1 c2 c3; rw [List.take_length] at c3
      exact PyProof.Rows.args_nil (call_len_set ho hex hd hf (by rw [hn]; omega) ⟨.int n, H1, (I1.kept (t' := tk) keep).tok _, ⟨_, by rw [hn]⟩, k n c1 ⟨c3, c2⟩⟩)
    · obtain ⟨its, r, pl, _⟩ := I1.tuple hq
      refine set_of_tuple (I1.ok.hd hc) pl (fun E => fills_txts (xs := xs) (by simpa using r) (by unfold scanBound; omega)) fun h' tk ⟨n, ⟨o, es, ep, t, ho, hex, hd, _, _, _, hf, hn⟩, c1, c2, c3⟩ keep => ?_
      have sz : its.toArray.size = xs.length := by rw [List.size_toArray, ← r.length, List.length_map]
      rw [sz] at c1 c2 c3; rw [List.take_length] at c3
      exact PyProof.Rows.args_nil (call_len_set ho hex hd hf (by rw [hn]; omega) ⟨.int n, H1, (I1.kept (t' := tk) keep).tok _, ⟨_, by rw [hn]⟩, k n c1 ⟨c3, c2⟩⟩)
  · have ats : ∀ p ∈ ks, (nkF X.prog X.w).At s1.heap p.2 p.1 := fun p hp => (hks p hp).is I1 rfl
    rcases hq with hq | hq
    · obtain ⟨its, r, pl, _⟩ := I1.list hq
      have sz : its.toArray.size = ks.length := by rw [List.size_toArray, ← r.length, List.length_map]
      refine set_of_list (I1.ok.hd hc) pl.isList (fun E => fills_keys (nkF X.prog X.w) (ks := ks) (by omega) (by simpa using refs_only r) few ats) fun h' tk ⟨L, es, ep, t, R, g⟩ keep => ?_
      rw [sz] at g
      obtain ⟨o, ho, hex, hd⟩ := R.obj
      have cz := size_of_rows R.row
      have c3 := g.once; rw [List.take_length] at c3
      exact PyProof.Rows.args_nil (call_len_set ho hex hd (R.fit (s := { s1 with heap := h' })) (by have := R.few; omega) ⟨.int L.length, H1, (I1.kept (t' := tk) keep).tok _, ⟨_, by rw [cz]⟩, k L.length g.len ⟨c3, g.full⟩⟩)
    · obtain ⟨its, r, pl, _⟩ := I1.tuple hq
      have sz : its.toArray.size = ks.length := by rw [List.size_toArray, ← r.length, List.length_map]
      refine set_of_tuple (I1.ok.hd hc) pl (fun E => fills_keys (nkF X.prog X.w) (ks := ks) (by omega) (by simpa using refs_only r) few ats) fun h' tk ⟨L, es, ep, t, R, g⟩ keep => ?_
      rw [sz] at g
      obtain ⟨o, ho, hex, hd⟩ := R.obj
      have cz := size_of_rows R.row
      have c3 := g.once; rw [List.take_length] at c3
      exact PyProof.Rows.args_nil (call_len_set ho hex hd (R.fit (s := { s1 with heap := h' })) (by have := R.few; omega) ⟨.int L.length, H1, (I1.kept (t' := tk) keep).tok _, ⟨_, by rw [cz]⟩, k L.length g.len ⟨c3, g.full⟩⟩)
end
section
variable {X : Cx} {o e : Expr} {es : List Expr} {to : TE} {t : TA} {apos cpos : Pos}
end
section
variable {G : Gh} {lv : Nat} {X : Cx} {a b c o : Expr} {es : List Expr} {qa qb : QE} {qA : QAs} {qB : QBs} {pos p p2 q2 apos cpos tpos : Pos} {e : PEnv} {M : Addr → Prop} {σ : L2.St} {H : Hp}
theorem set_keys {L : List (Addr × KN)} {xs : List PV} (r : RepAll G.toEn H M (L.map fun x => .ref x.1) xs) (o : (xs.all PV.keyB) = true) (e : L.map (fun x => x.2.1) = xs.map PV.nk) : ∀ p ∈ L, KH H (.ref p.1) p.2.1 := by
  induction L generalizing xs with
  | nil => intro p hp; cases hp
  | cons y L ih =>
    cases xs with
    | nil => cases e
    | cons x xs =>
      rw [List.map_cons] at r
      cases r with
      | cons r0 rt =>
        rw [List.all_cons, Bool.and_eq_true_iff] at o
        obtain ⟨e1, e2⟩ := List.cons.inj e
        have e1 : y.2.1 = PV.nk x := e1
        intro p hp
        rcases List.mem_cons.mp hp with rfl | hp
        · rw [e1]; exact r0.kh (keyB_tup o.1).2.1
        · exact ih rt o.2 e2 p hp
def hasK (ks : List PV) (k : PV) : Bool := decide (PV.nk k ∈ ks.map PV.nk)
theorem lift_perm {α β : Type} : ∀ {A B : List α}, A.Perm B → ∀ W : List (α × β), W.map (fun w => w.1) = A → ∃ W' : List (α × β), W'.map (fun w => w.1) = B ∧ W'.Perm W := by
  intro A B p
  induction p with
  | nil => intro W h; exact ⟨W, h, List.Perm.refl _⟩
  | cons a p ih =>
    intro W h
    cases W with
    | nil => cases h
    | cons w W =>
      obtain ⟨h1, h2⟩ := List.cons.inj h
      obtain ⟨W', q1, q2⟩ := ih W h2
      exact ⟨w :: W', by rw [List.map_cons, q1]; exact congrArg (· :: _) h1, q2.cons _⟩
  | swap a b l =>
    intro W h
    cases W with
    | nil => cases h
    | cons w W =>
      obtain ⟨h1, h2⟩ := List.cons.inj h
      cases W with
      | nil => cases h2
      | cons w2 W =>
        obtain ⟨h3, h4⟩ := List.cons.inj h2
        have h1 : w.1 = _ := h1
        have h3 : w2.1 = _ := h3
        exact ⟨w2 :: w :: W, by rw [List.map_cons, List.map_cons, h4, h1, h3], List.Perm.swap _ _ _⟩
  | trans p1 p2 ih1 ih2 =>
    intro W h
    obtain ⟨W1, a1, a2⟩ := ih1 W h
    obtain ⟨W2, b1, b2⟩ := ih2 W1 a1
    exact ⟨W2, b1, b2.trans a2⟩
def gInU (f : Bool → Bool) (q p : PV) (k : Bool → Prop) : Prop := match p with
  | .set ks => PV.keyB q = true ∧ k (f (hasK ks q))
  | _ => gInB f q p k
theorem gInU_mono (f : Bool → Bool) (q p : PV) (k k' : Bool → Prop) (g : ∀ b, k b → k' b) (h : gInU f q p k) : gInU f q p k' := by
  unfold gInU at h ⊢
  split at h
  · exact ⟨h.1, g _ h.2⟩
  · exact gInB_mono f q p k k' g h
def rSInF (P : Program) (w : World) (f : Bool → Bool) : V → V → Hp → VK → Prop := fun x y H Q => ∃ (b a : Addr) (k : KN) (L : List (Addr × KN)), x = .ref b ∧ y = V.ref a ∧ H a = some (SetG P w a L) ∧ (∀ p ∈ L, KH H (.ref p.1) p.2.1) ∧ KH H (.ref b) k.1 ∧ Q (.bl (f (decide (k ∈ L.map (·.2))))) H
theorem Acc.set {v : V} {ks : List PV} (h : Acc G.toEn H M v (.set ks)) : ∃ a, v = .ref a ∧ Obj G.toEn H M a (.set ks) := by
  rcases h with h | ⟨a, rfl, h⟩
  · cases h
  · exact ⟨a, rfl, h⟩
theorem l_inU (f : Bool → Bool) : Lift2 G (fun x y H Q => rInU G f x y H Q ∨ rSInF G.P G.w f x y H Q) (gB (gInU f)) := fun e M σ H v w p q Q k S a b g fin => by
  unfold gB gInU at g
  split at g
  · obtain ⟨kb, g⟩ := g
    obtain ⟨A, rfl, L, xs, hL, hr, hk, he, hperm⟩ := b.set
    have ra : Rep G.toEn H M v p := a.key (by unfold keyA; split <;> first | rfl | exact kb)
    obtain ⟨c, rfl, kh, dp⟩ := rep_keyB ra kb
    refine .inr ⟨c, A, ⟨PV.nk p, dp⟩, L, rfl, rfl, hL, set_keys hr hk he, kh, ?_⟩
    rename_i ks
    have mem : decide ((⟨PV.nk p, dp⟩ : KN) ∈ L.map (·.2)) = hasK ks p := by
      unfold hasK
      refine decide_eq_decide.mpr ?_
      have : PV.nk p ∈ ks.map PV.nk ↔ PV.nk p ∈ L.map (fun y => y.2.1) := by rw [he]; exact ((hperm.map PV.nk).mem_iff).symm
      rw [this]
      constructor
      · intro h; obtain ⟨y, hy, e⟩ := List.mem_map.mp h; exact List.mem_map.mpr ⟨y, hy, by rw [e]⟩
      · intro h; obtain ⟨y, hy, e⟩ := List.mem_map.mp h; exact List.mem_map.mpr ⟨y, hy, Subtype.ext e⟩
    rw [mem]
    exact aft_sh S (fin _ g) (.bl _)
  · exact .inl (l_in f e M σ H v w p q Q k S a b g fin)
theorem op_inSG (hu : X.A.units + 64 < cLine) : OpR X (compareOp .In) (rSInF X.prog X.w fun b => b) := or_sinG hu
abbrev gInQ := gInU fun b => b
theorem c_inU (g : Good G lv X) : CmpQ G X .In gInQ := ⟨⟨_, OpR.or (OpR.or (g.P ▸ g.w ▸ op_inD g.units) (OpR.or (g.K ▸ op_inSq g.units66) op_in_sign)) (g.P ▸ g.w ▸ op_inSG g.units), l_inU _⟩, gInU_mono _⟩
def isS : PV → Bool
  | .str _ => true
  | _ => false
theorem nodup_map {α β : Type} {f : α → β} {l : List α} (inj : ∀ a b, f a = f b → a = b) (nd : l.Nodup) : (l.map f).Nodup := List.Pairwise.map f (fun a b n e => n (inj a b e)) nd
theorem nodup_of_map {α β : Type} {f : α → β} {l : List α} (nd : (l.map f).Nodup) : l.Nodup := (List.pairwise_map.mp nd).imp fun n e => n (by rw [e])
def gLenSet (p : PV) (k : QV → Prop) : Prop := match p with
  | .lst xs => (xs.all isS || xs.all PV.keyB) = true ∧ xs.length < 300 ∧ ∀ n : Nat, n ≤ xs.length → (n = xs.length ↔ (xs.map PV.nk).Nodup) → k (.sh (.int n))
  | .tup xs => (xs.all isS || xs.all PV.keyB) = true ∧ xs.length < 300 ∧ ∀ n : Nat, n ≤ xs.length → (n = xs.length ↔ (xs.map PV.nk).Nodup) → k (.sh (.int n))
  | _ => False
theorem len_alt {vs : List V} {xs : List PV} {k : Nat → Prop} (r : RepAll G.toEn H M vs xs) (al : (xs.all isS || xs.all PV.keyB) = true) (few : xs.length < 300) (h : ∀ n : Nat, n ≤ xs.length → (n = xs.length ↔ (xs.map PV.nk).Nodup) → k n) : lenAlt H vs k := by
  rcases Bool.or_eq_true_iff.mp al with al1 | al1
  all_goals clear al
  · have : ∃ ys : List Str, xs = ys.map PV.str := by
      clear r h few
      induction xs with
      | nil => exact ⟨[], rfl⟩
      | cons x xs ih =>
        rw [List.all_cons, Bool.and_eq_true_iff] at al1
        obtain ⟨ys, e⟩ := ih al1.2
        cases x with
        | str y => exact ⟨y :: ys, by rw [e]; rfl⟩
        | _ => exact absurd al1.1 (by simp [isS])
    obtain ⟨ys, rfl⟩ := this
    have ev : vs = ys.map V.str := by
      clear h few al1
      induction ys generalizing vs with
      | nil => cases r; rfl
      | cons y ys ih =>
        rw [List.map_cons] at r
        cases r with
        | cons r0 rt => cases r0; rw [ih rt]; rfl
    refine .inl ⟨ys, ev, by rw [List.length_map] at few; exact few, fun n h1 h2 => h n (by rw [List.length_map]; exact h1) ?_⟩
    rw [List.length_map, h2, List.map_map]
    exact ⟨fun nd => nodup_map (fun a b h => by simpa [PV.nk] using h) nd, fun nd => nodup_of_map nd⟩
  · have : ∃ ks : List (Addr × KN), vs = ks.map (fun p => V.ref p.1) ∧ ks.map (fun x => x.2.1) = xs.map PV.nk ∧ ∀ p ∈ ks, KH H (.ref p.1) p.2.1 := by
      clear h few
      induction xs generalizing vs with
      | nil => cases r; exact ⟨[], rfl, rfl, fun _ z => nomatch z⟩
      | cons x xs ih =>
        rw [List.all_cons, Bool.and_eq_true_iff] at al1
        cases r with
        | cons r0 rt =>
          obtain ⟨ks, e1, e2, e3⟩ := ih rt al1.2
          obtain ⟨b, rfl, kh, dp⟩ := rep_keyB r0 al1.1
          refine ⟨(b, ⟨PV.nk x, dp⟩) :: ks, by rw [e1]; rfl, by rw [List.map_cons, List.map_cons, e2], fun p hp => ?_⟩
          rcases List.mem_cons.mp hp with rfl | hp
          · exact kh
          · exact e3 p hp
    obtain ⟨ks, e1, e2, e3⟩ := this
    have ll : ks.length = xs.length := by have := congrArg List.length e2; simpa using this
    refine .inr ⟨ks, e1, e3, by rw [ll]; exact few, fun n h1 h2 => h n (by rw [← ll]; exact h1) ?_⟩
    rw [← ll, h2, ← e2]
    have : ks.map (fun x => x.2.1) = (ks.map (·.2)).map Subtype.val := by rw [List.map_map]; rfl
    rw [this]
    exact ⟨fun nd => nodup_map (fun a b h => Subtype.ext h) nd, fun nd => nodup_of_map nd⟩
def qLenSet (q : QE) : QE := fun e Q => q e fun r e1 => withP (acc e1 r) fun p => gLenSet p fun r => Q r e1
theorem q_lenSet (g : Good G lv X) (hm : X.mg "len" = none) (hm2 : X.mg "set" = none) (ha : PE X a (LE G qa)) (hg : Gl X "len" := by rfl) (hg2 : Gl X "set" := by rfl)
    (na : starEach [a] X.env = (false, eval a X.env) :: starEach [] X.env := by rfl) : PE X (.Call (.Name "len" p) [.Call (.Name "set" p2) [a] [] q2] [] pos) (LE G (qLenSet qa)) := PE.imp (pe_lenSetU g.calm hg hm hg2 hm2 g.units ha na) fun σ H Q ⟨e, M, K, S, q, f⟩ => ⟨e, M, _, S, q, fun r e1 z v H1 M1 S1 s1 R => by
  obtain ⟨p, ap, z⟩ := withP_of z
  have A := Res.acc S1 R ap
  unfold gLenSet at z
  split at z
  · obtain ⟨al, few, z⟩ := z
    obtain ⟨a1, vs, rfl, sq, rr⟩ := A.lst
    exact ⟨a1, vs, rfl, .inl (g.K ▸ sq), len_alt rr al few fun n h1 h2 => aft_sh S1 ((f _ e1 (z n h1 h2)).from s1) (.int _)⟩
  · obtain ⟨al, few, z⟩ := z
    obtain ⟨a1, vs, rfl, sq, rr⟩ := A.tup
    exact ⟨a1, vs, rfl, .inr (g.K ▸ sq), len_alt rr al few fun n h1 h2 => aft_sh S1 ((f _ e1 (z n h1 h2)).from s1) (.int _)⟩
  · exact z.elim⟩
end
end CP
namespace CP
open PySem PySem.Spec PyProof.Rows L2
section
variable {G : Gh} {lv : Nat} {X : Cx} {a b c o : Expr} {es : List Expr} {qa qb qc : QE} {qA : QAs} {qB : QBs} {pos p apos cpos tpos : Pos} {e : PEnv} {M : Addr → Prop} {σ : L2.St} {H : Hp}
def putNs (f : Str) : List Str → List Str
  | [] => [f]
  | g :: r => if g = f then g :: r else g :: putNs f r
def putVs (f : Str) (x : PV) : List Str → List PV → List PV
  | [], _ => [x]
  | g :: r, v :: vs => if g = f then x :: vs else v :: putVs f x r vs
  | _ :: _, [] => []
theorem putF_rep {f : Str} {v : V} {x : PV} (rv : Rep G.toEn H M v x) : ∀ {fs : List (Str × V)} {vs : List PV}, RepAll G.toEn H M (fs.map (·.2)) vs → (putF f v fs).map (·.1) = putNs f (fs.map (·.1)) ∧ RepAll G.toEn H M ((putF f v fs).map (·.2)) (putVs f x (fs.map (·.1)) vs)
  | [], _, _ => ⟨rfl, .cons rv .nil⟩
  | (g, w) :: fs, [], r => by cases r
  | (g, w) :: fs, y :: vs, r => by
    cases r with
    | cons r0 rt =>
      obtain ⟨h1, h2⟩ := putF_rep (f := f) rv rt
      simp only [putF, putNs, putVs, List.map_cons]
      by_cases q : g = f
      · rw [if_pos q, if_pos q, if_pos q]; exact ⟨rfl, .cons rv rt⟩
      · rw [if_neg q, if_neg q, if_neg q]; exact ⟨by rw [List.map_cons, h1], .cons r0 h2⟩
theorem putF_other {f g : Str} (h : g ≠ f) {v : V} {fs : List (Str × V)} : (putF f v fs).lookup g = fs.lookup g := by rw [lookup_putF, if_neg h]
theorem putF_same {f : Str} {v : V} {fs : List (Str × V)} : (putF f v fs).lookup f = some v := by rw [lookup_putF, if_pos rfl]
def sFldS (C : Addr) (i : Nat) (f : Str) (q : QE) : QS := fun E e => q e fun r e1 => keep r e1 fun x e2 => match getC e2 i with
  | some (.ins D ns vs) => (D = C ∧ ns.length < 900) ∧ E.nx (putC e2 i (.ins C (putNs f ns) (putVs f x ns vs)))
  | _ => False
theorem s_fld {i : Nat} {C : Addr} {f : Str} {value : Expr} {pos' : Pos} {qv : QE} (g : Good G lv X) (cl : Cls X.K C) (na : NoAttr X.K C f) (ho : PE X o (tVar i)) (hv : PE X value (LE G qv)) (hs : swapsWith value (some (.Attribute o f pos')) pos.line X.env = pure false := by rfl) (hf : f ≠ "vertices" := by decide) :
    PS X (.Assign [.Attribute o f pos'] value pos) (LS G (sFldS C i f qv)) := PS.imp (ps_fld ho hv hs) fun D σ H ⟨e, M, E, S, k, fin⟩ => ⟨e, M, _, S, k, fun r e1 k1 v H1 M1 S1 s1 R => by
    obtain ⟨x, e2, M2, k2, S2, s2, R2⟩ := keep_ok S1 R k1
    split at k2
    · rename_i D0 ns vs hp
      obtain ⟨⟨rfl, few⟩, k2⟩ := k2
      obtain ⟨A, h1, ⟨dx, fs, h2, rfl, rr, vo⟩, _⟩ := S2.cont hp
      obtain ⟨g1, g2⟩ := putF_rep (f := f) R2 rr
      refine ⟨.ref A, h1, A, _, dx, fs, rfl, h2, cl, na, by rw [List.length_map] at few; omega, ?_⟩
      obtain ⟨S3, s3⟩ := S2.change hp h1 (o := .ins _ dx (putF f v fs)) (p' := .ins _ (putNs f (fs.map (·.1))) (putVs f x (fs.map (·.1)) vs)) (fun s => ⟨dx, _, upd_same, g1, g2.step s, fun u hu => vo.step s u (by rw [putF_other hf.symm] at hu; exact hu)⟩)
      exact fin.nx _ k2 σ _ M2 S3 ((s1.trans s2).trans s3)
    · exact k2.elim⟩
theorem len_snoc {α : Type} {l : List α} {x : α} : (l ++ [x])[l.length]? = some x := by simp
theorem get_snoc {α : Type} {l : List α} {x y : α} {j : Nat} (h : (l ++ [x])[j]? = some y) : l[j]? = some y ∨ (j = l.length ∧ y = x) := by
  by_cases c : j < l.length
  · rw [List.getElem?_append_left c] at h; exact .inl h
  · rw [List.getElem?_append_right (by omega)] at h
    cases d : j - l.length with
    | zero => rw [d] at h; exact .inr ⟨by omega, by simpa using h.symm⟩
    | succ n => rw [d] at h; simp at h
theorem snoc_get {α : Type} {l : List α} {x y : α} {j : Nat} (h : l[j]? = some y) : (l ++ [x])[j]? = some y := by
  rw [List.getElem?_append_left (List.getElem?_eq_some_iff.mp h).1]; exact h
theorem StOk.extend (S : StOk G e M σ H) {x : Addr} {p : PV} (ob : Obj G.toEn H M x p) (ma : M x) (m0 : ¬ G.M0 x) (h0 : G.H0 x = none) (nj : ∀ j, Mu e j → σ[j]? ≠ some (some (V.ref x))) : StOk G (e ++ [.own p]) M (σ ++ [some (.ref x)]) H := by
  have mu : ∀ {j}, Mu (e ++ [.own p]) j → Mu e j ∨ j = e.length := fun {j} ⟨q, h⟩ => by
    rcases h with h | h
    · rcases get_snoc h with h | ⟨h, _⟩
      · exact .inl ⟨q, .inl h⟩
      · exact .inr h
    · rcases get_snoc h with h | ⟨h, _⟩
      · exact .inl ⟨q, .inr h⟩
      · exact .inr h
  have lt : ∀ {j}, Mu e j → j < e.length := fun {j} ⟨q, h⟩ => h.elim get_lt get_lt
  have sg : ∀ {j v}, j < e.length → (σ ++ [some (V.ref x)])[j]? = some (some v) → σ[j]? = some (some v) := fun {j v} hj h => by
    rw [List.getElem?_append_left (by rw [← S.len]; exact hj)] at h; exact h
  refine ⟨by rw [List.length_append, List.length_append, S.len]; rfl, fun j q h => ?_, fun j q h => ?_, fun j q h => ?_, fun i j b mi mj h1 h2 => ?_, fun j b h => ?_, S.m0, S.trk, S.prs, S.tmp⟩
  · rcases get_snoc h with h | ⟨_, h⟩
    · obtain ⟨v, q1, q2⟩ := S.val j q h; exact ⟨v, snoc_get q1, q2⟩
    · cases h
  · rcases get_snoc h with h | ⟨hj, h⟩
    · obtain ⟨v, q1, q2⟩ := S.own j q h; exact ⟨v, snoc_get q1, q2⟩
    · cases h
      exact ⟨x, by rw [hj, S.len]; exact len_snoc, ob, ma, m0, h0⟩
  · rcases get_snoc h with h | ⟨_, h⟩
    · obtain ⟨v, q0, q1, q2⟩ := S.io j q h; exact ⟨v, q0, snoc_get q1, q2⟩
    · cases h
  · have last : ∀ {v : V}, (σ ++ [some (V.ref x)])[e.length]? = some (some v) → v = .ref x := fun {v} h => by
      rw [S.len, len_snoc] at h; cases h; rfl
    rcases mu mi with m1 | e1
    · have h1' := sg (lt m1) h1
      rcases mu mj with m2 | e2
      · exact S.inj i j b m1 m2 h1' (sg (lt m2) h2)
      · subst e2
        have := last h2
        cases this
        exact absurd h1' (nj i m1)
    · subst e1
      have := last h1
      cases this
      rcases mu mj with m2 | e2
      · exact absurd (sg (lt m2) h2) (nj j m2)
      · exact e2.symm
  · obtain ⟨q1, q, q2⟩ := S.iol j b h
    exact ⟨snoc_get q1, q, snoc_get q2⟩
theorem StOk.shrink {x : Addr} {p : PV} (hl : e.length = σ.length) (S : StOk G (e ++ [.own p]) M (σ ++ [some (.ref x)]) H) (ni : ∀ j a, (j, a) ∈ G.iol → j < e.length) : StOk G e M σ H ∧ Res G e M σ H (.ref x) (.fr p) := by
  have lt : ∀ {j} {s : Sl}, e[j]? = some s → j < σ.length := fun h => by rw [← hl]; exact get_lt h
  have sg : ∀ {j v}, j < σ.length → (σ ++ [some (V.ref x)])[j]? = some (some v) → σ[j]? = some (some v) := fun {j v} hj h => by
    rw [List.getElem?_append_left hj] at h; exact h
  have mul : ∀ {j}, Mu e j → Mu (e ++ [.own p]) j := fun ⟨q, h⟩ => ⟨q, h.imp snoc_get snoc_get⟩
  have mlt : ∀ {j}, Mu e j → j < σ.length := fun ⟨q, h⟩ => h.elim lt lt
  have top : Mu (e ++ [.own p]) e.length := ⟨p, .inl len_snoc⟩
  have stop : (σ ++ [some (V.ref x)])[e.length]? = some (some (V.ref x)) := by rw [hl]; exact len_snoc
  refine ⟨⟨hl, fun j q h => ?_, fun j q h => ?_, fun j q h => ?_, fun i j b mi mj h1 h2 => S.inj i j b (mul mi) (mul mj) (snoc_get h1) (snoc_get h2), fun j b h => ?_, S.m0, S.trk, S.prs, S.tmp⟩, ?_⟩
  · obtain ⟨v, q1, q2⟩ := S.val j q (snoc_get h); exact ⟨v, sg (lt h) q1, q2⟩
  · obtain ⟨v, q1, q2⟩ := S.own j q (snoc_get h); exact ⟨v, sg (lt h) q1, q2⟩
  · obtain ⟨v, q0, q1, q2⟩ := S.io j q (snoc_get h); exact ⟨v, q0, sg (lt h) q1, q2⟩
  · obtain ⟨q1, q, q2⟩ := S.iol j b h
    have hj := ni j b h
    refine ⟨sg (by rw [← hl]; exact hj) q1, q, ?_⟩
    rw [List.getElem?_append_left hj] at q2; exact q2
  · obtain ⟨a, q1, q2, q3, q4, q5⟩ := S.own e.length p len_snoc
    rw [stop] at q1; cases q1
    refine ⟨x, rfl, q2, q3, q4, q5, fun j m z => ?_⟩
    have := S.inj j e.length x (mul m) top (snoc_get z) stop
    have l := mlt m
    rw [hl] at this; omega
theorem putC_snoc {s : Sl} {p : PV} : ∀ {e : PEnv}, putC (e ++ [s]) e.length p = e ++ [s.put p]
  | [] => rfl
  | t :: e => by show t :: putC (e ++ [s]) e.length p = _; rw [putC_snoc]; rfl
def keptAs (ps : List PV) : List AV := ps.map .kept
theorem argSs_kept (e : PEnv) : ∀ ps : List PV, argSs e (keptAs ps) = some (ps.map Sl.val)
  | [] => rfl
  | p :: ps => by show (match argS e (.kept p), argSs e (keptAs ps) with | some s, some ss => some (s :: ss) | _, _ => none) = _; rw [argSs_kept e ps]; rfl
theorem lents_kept : ∀ ps : List PV, lents (keptAs ps) = []
  | [] => rfl
  | p :: ps => lents_kept ps
theorem putB_kept (e : PEnv) : ∀ (ps : List PV) (ss : List Sl), putB e (keptAs ps) ss = e
  | [], ss => by cases ss <;> rfl
  | p :: ps, [] => rfl
  | p :: ps, s :: ss => by
    have : putB e (keptAs (p :: ps)) (s :: ss) = putB e (keptAs ps) ss := by cases s <;> rfl
    rw [this]; exact putB_kept e ps ss
theorem avOk_kept {vs : List V} {ps : List PV} (r : RepAll G.toEn H M vs ps) : AvOk G e M σ H vs (keptAs ps) := by
  induction ps generalizing vs with
  | nil => cases r; exact .nil
  | cons p ps ih => cases r with
    | cons r0 rt => exact .kept r0 (ih rt)
def qMake (C : Addr) (g : PG1) (q : QAs) : QE := fun e Q => q e fun ps e1 => g (.io (.ins C [] []) :: ps.map .val) fun r ss' => r = .sh .non ∧ match ss' with
  | .io p :: _ => Q (.fr p) e1
  | _ => False
variable {x : Str} {k : Nat} {f C : Addr} {fd : FuncData} {ps : List Str} {g : PG1}
theorem q_make (gd : Good G lv X) (MK : Mk X.K C f) (F : FnOk X.prog X.w X.K X.mg X.base CX0 k f fd ps (spP G.toEn g)) (hk : k + 1 ≤ lv) (hm : X.mg x = some (.ref C)) (hb : Binds X.K fd ps []) (hout : ∀ ss Q, g ss Q → g ss fun r ss' => Q r ss' ∧ ss'.length = ss.length) (ha : PA X (a :: es) (LA G qA))
    (hg : Gl X x := by rfl) (hdb : (x == ("__debug__" : Str)) = false := by decide) (he : starEach (a :: es) X.env = (false, eval a X.env) :: starEach es X.env := by rfl) (hpl : (backTo pos (starEach es X.env)).any (·.1) = false := by rfl) : PE X (.Call (.Name x p) (a :: es) [] pos) (LE G (qMake C g qA)) :=
  PE.imp (pe_make MK F (gd.room.mono hk) hg hm hb .nil pass0 ha hdb he hpl) fun σ H Q ⟨e, M, K, S, q, fin⟩ => ⟨e, M, _, S, q, fun ps e1 k1 vs H1 M1 S1 s1 R x dx hx hdx ne => by
    rw [List.append_nil]
    have S2 := S1.new (o := .own x) hdx
    have s2 : Step H1 M1 (L2.upd H1 dx (.own x)) M1 := step_new hdx
    have hx2 : (L2.upd H1 dx (.own x)) x = none := by rw [upd_ne (Ne.symm ne)]; exact hx
    obtain ⟨S3, s3⟩ := S2.newM (o := .ins C dx []) hx2
    have nM : ¬ G.M0 x := fun z => S1.trk x (S1.m0 x z) hx
    have nj : ∀ j, Mu e1 j → σ[j]? ≠ some (some (V.ref x)) := fun j m z => by
      obtain ⟨a, q, h1, _, h2, _⟩ := S1.mu m
      rw [z] at h1; cases h1
      exact h2.there hx
    have S4 := S3.extend (x := x) (p := .ins C [] []) ⟨dx, [], upd_same, rfl, .nil, fun _ h => nomatch h⟩ (.inl rfl) nM (S1.h0 hx) nj
    have A : AvOk G (e1 ++ [.own (.ins C [] [])]) (fun a => a = x ∨ M1 a) (σ ++ [some (.ref x)]) (L2.upd (L2.upd H1 dx (.own x)) x (.ins C dx [])) (.ref x :: vs) (.lent e1.length :: keptAs ps) :=
      .lent (by rw [S1.len]; exact len_snoc) (avOk_kept ((R.step s2).step s3))
    have gc : getC (e1 ++ [.own (.ins C [] [])]) e1.length = some (.ins C [] []) := by unfold getC; rw [len_snoc]; rfl
    have hs : argSs (e1 ++ [.own (.ins C [] [])]) (.lent e1.length :: keptAs ps) = some (.io (.ins C [] []) :: ps.map Sl.val) := by
      show (match argS _ _, argSs _ (keptAs ps) with | some s, some ss => some (s :: ss) | _, _ => none) = _
      rw [argSs_kept]
      show (match (getC _ _).map Sl.io, _ with | some s, some ss => some (s :: ss) | _, _ => none) = _
      rw [gc]; rfl
    have nd : (lents (.lent e1.length :: keptAs ps)).Nodup := by
      show (e1.length :: lents (keptAs ps)).Nodup
      rw [lents_kept]; simp
    obtain ⟨A', _, lent⟩ := args_ok S4 A hs
    refine ⟨_, _, _, A', fun i j b hi hj => ?_, S4.trk, hout _ _ k1, fun r ss' ⟨kr, hl⟩ v H' M' E => ?_⟩
    · obtain ⟨i', e1', m1, a1⟩ := (lent i b).mp hi
      obtain ⟨j', e2, m2, a2⟩ := (lent j b).mp hj
      have : i' = j' := S4.inj i' j' b m1 m2 a1 a2
      subst this
      exact lents_one nd e1' e2
    · obtain ⟨rfl, kr⟩ := kr
      obtain ⟨S5, s5, R5⟩ := call_back S4 A nd hs E hl
      have hv : v = .non := by
        have := R5 .non (.inl rfl)
        cases (show Rep G.toEn H' M' v .non from this); rfl
      refine ⟨hv, ?_⟩
      split at kr
      · rename_i p rest _
        have pb : putB (e1 ++ [.own (.ins C [] [])]) (.lent e1.length :: keptAs ps) (.io p :: rest) = e1 ++ [.own p] := by
          show putB (putC (e1 ++ [.own (.ins C [] [])]) e1.length p) (keptAs ps) rest = _
          rw [putB_kept]
          exact putC_snoc
        rw [pb] at S5
        obtain ⟨S6, R6⟩ := S5.shrink S1.len fun j a h => by
          obtain ⟨_, q, q2⟩ := S1.iol j a h
          exact get_lt q2
        exact fin _ _ kr _ H' M' S6 (((s1.trans s2).trans s3).trans s5) R6
      · exact kr.elim⟩
def chainQ (g1 g2 : PV → PV → (Bool → Prop) → Prop) (a b c : QE) : QT := fun e Q => a e fun r1 e1 => stl r1 <| b e1 fun r2 e2 => stl r2 <| withP (acc e2 r1) fun p1 => withP (acc e2 r2) fun p2 => g1 p1 p2 fun k => if k = true then c e2 fun r3 e3 => withP (acc e3 r2) fun p2' => withP (acc e3 r3) fun p3 => g2 p2' p3 fun k2 => Q k2 e3 else Q false e2
theorem lift_b {r : R2} {g : PV → PV → (Bool → Prop) → Prop} (l : Lift2 G r (gB g)) (mono : ∀ p q (k k' : Bool → Prop), (∀ b, k b → k' b) → g p q k → g p q k') {v w : V} {p q : PV} {Q : VK} {k : Bool → Prop} (S : StOk G e M σ H) (a : Acc G.toEn H M v p) (b : Acc G.toEn H M w q) (gk : g p q k)
    (f : ∀ b, k b → ∀ H' M', StOk G e M' σ H' → Step H M H' M' → Q (.bl b) H') : r v w H Q :=
  l e M σ H v w p q Q (fun r => ∃ b, r = .sh (.bl b) ∧ k b) S a b (mono _ _ _ _ (fun b kk => ⟨b, rfl, kk⟩) gk) fun r ⟨b, hr, kk⟩ => by
    subst hr
    intro v H3 M3 S3 s3 R3
    cases (show Rep G.toEn H3 M3 v (.bl b) from R3)
    exact f b kk H3 M3 S3 s3
theorem chain_ok {r r' : R2} {g1 g2 : PV → PV → (Bool → Prop) → Prop} (l1 : Lift2 G r (gB g1)) (m1 : ∀ p q (k k' : Bool → Prop), (∀ b, k b → k' b) → g1 p q k → g1 p q k') (l2 : Lift2 G r' (gB g2)) (m2 : ∀ p q (k k' : Bool → Prop), (∀ b, k b → k' b) → g2 p q k → g2 p q k')
    {σ : L2.St} {H : Hp} {Q : VK} (h : ∃ e M K, StOk G e M σ H ∧ chainQ g1 g2 qa qb qc e K ∧ ∀ (b : Bool) e', K b e' → ∀ H' M', StOk G e' M' σ H' → Step H M H' M' → Q (.bl b) H') : tChain r r' (LE G qa) (LE G qb) (LE G qc) σ H Q := by
  obtain ⟨e, M, K, S, q, f⟩ := h
  refine ⟨e, M, _, S, q, fun r1 e1 k1 x H1 M1 S1 s1 R1 => ?_⟩
  obtain ⟨pb1, k1⟩ := stl_of k1
  obtain ⟨M1', S1', s1', R1'⟩ := Res.settle S1 R1 pb1
  refine ⟨e1, M1', _, S1', k1, fun r2 e2 k2 y H2 M2 S2 s2 R2 => ?_⟩
  obtain ⟨pb2, k2⟩ := stl_of k2
  obtain ⟨M2', S2', s2', R2'⟩ := Res.settle S2 R2 pb2
  obtain ⟨p1, a1, k2⟩ := withP_of k2
  obtain ⟨p2, a2, k2⟩ := withP_of k2
  have RA : Res G e2 M2' σ H2 x (settle r1) := Res.later (s2.trans s2') R1'
  refine lift_b l1 m1 S2' (Res.acc S2' RA (acc_settle.trans a1)) (Res.acc S2' R2' (acc_settle.trans a2)) k2 fun b kk H3 M3 S3 s3 => ?_
  refine ⟨b, rfl, ?_⟩
  have st := ((s1.trans s1').trans (s2.trans s2')).trans s3
  cases b with
  | false => exact f false e2 kk H3 M3 S3 st
  | true =>
    refine ⟨e2, M3, _, S3, kk, fun r3 e3 k3 z H4 M4 S4 s4 R4 => ?_⟩
    obtain ⟨p2', a2', k3⟩ := withP_of k3
    obtain ⟨p3, a3, k3⟩ := withP_of k3
    have RB : Res G e3 M4 σ H4 y (settle r2) := Res.later (s3.trans s4) R2'
    exact lift_b l2 m2 S4 (Res.acc S4 RB (acc_settle.trans a2')) (Res.acc S4 R4 a3) k3 fun b kk H5 M5 S5 s5 => f b e3 kk H5 M5 S5 ((st.trans s4).trans s5)
theorem t_chain {op op' : CmpOp} {g1 g2 : PV → PV → (Bool → Prop) → Prop} (c1 : CmpQ G X op g1) (c2 : CmpQ G X op' g2) (ha : PE X a (LE G qa)) (hb : PE X b (LE G qb)) (hc : PE X c (LE G qc)) (hm : lastMarks [op, op'] [b, c] = false := by with_unfolding_all rfl) : PT X (.Compare a [op, op'] [b, c] pos) (LT G (chainQ g1 g2 qa qb qc)) := by
  obtain ⟨r1, h1, l1⟩ := c1.ex
  obtain ⟨r2, h2, l2⟩ := c2.ex
  exact PT.imp (pt_chain h1 h2 ha hb hc hm) fun σ H Q ⟨e, M, K, S, q, f⟩ => chain_ok l1 c1.mono l2 c2.mono ⟨e, M, K, S, q, fun b e' k H' M' S' s' => ⟨b, rfl, f b e' k H' M' S' s'⟩⟩
def vChain (g1 g2 : PV → PV → (Bool → Prop) → Prop) (a b c : QE) : QE := fun e Q => chainQ g1 g2 a b c e fun k e1 => Q (.sh (.bl k)) e1
theorem v_chain {op op' : CmpOp} {g1 g2 : PV → PV → (Bool → Prop) → Prop} (c1 : CmpQ G X op g1) (c2 : CmpQ G X op' g2) (ha : PE X a (LE G qa)) (hb : PE X b (LE G qb)) (hc : PE X c (LE G qc)) (hm : lastMarks [op, op'] [b, c] = false := by with_unfolding_all rfl) : PE X (.Compare a [op, op'] [b, c] pos) (LE G (vChain g1 g2 qa qb qc)) := by
  obtain ⟨r1, h1, l1⟩ := c1.ex
  obtain ⟨r2, h2, l2⟩ := c2.ex
  exact PE.imp (pe_chain h1 h2 ha hb hc hm) fun σ H Q ⟨e, M, K, S, q, f⟩ => chain_ok l1 c1.mono l2 c2.mono ⟨e, M, _, S, q, fun b e' k H' M' S' s' => aft_sh S' ((f _ e' k).from s') (.bl b)⟩
end
end CP
namespace CP
open PySem PySem.Spec PyProof.Rows L2
section
variable {G : Gh} {lv : Nat} {X : Cx}
variable {elt tg iter tg1 iter1 : Expr} {ifs ifs1 : List Expr} {scope : Scope} {own : List (Str × Nat)} {vs1 : List Nat} {pos : Pos} {qi qi1 : QI} {qg qg1 : QG} {qt qt1 : QT} {qe : QE}
end
end CP
namespace CP
open PySem PySem.Spec PyProof.Rows L2
section
variable {G : Gh} {lv : Nat} {X : Cx} {a b c o : Expr} {es : List Expr} {qa qb qc : QE} {qA : QAs} {qB : QBs} {pos p apos cpos tpos : Pos} {e : PEnv} {M : Addr → Prop} {σ : L2.St} {H : Hp} {st : Stmt} {sts : List Stmt}
def sNever : QS := fun _ _ => False
theorem s_never : PS X st (LS G sNever) := PS.imp ps_never fun D σ H ⟨e, M, E, S, k, f⟩ => k
abbrev gAugInt (f : Int → Int → Int) := gInt (fun _ _ => True) f
def sAugAdd (i : Nat) (qa : QE) : QS := fun E e => match e[i]? with
  | some (Sl.val p) => qa e fun r e1 => withP (acc e1 r) fun p2 => gAugInt (fun i j => i + j) p p2 fun r => storeS i r e1 E.nx
  | some (Sl.own (.lst _)) => qa e fun r e1 => withP (acc e1 r) fun p2 => match e1[i]?, p2 with
    | some (Sl.own (.lst xs)), .lst ys => (xs.length + ys.length ≤ SZ ∧ r ≠ .bor i) ∧ E.nx (putC e1 i (.lst (xs ++ ys)))
    | _, _ => False
  | _ => False
def rExtR : R2 := fun x y H Q => ∃ l b xs zs, x = .ref l ∧ y = .ref b ∧ H l = some (.lst xs) ∧ Rd H b (.lst zs) ∧ xs.length + zs.length ≤ sizeLine ∧ Q (.ref l) (L2.upd H l (.lst (xs ++ zs)))
theorem iop_extR : OpR X (inplaceOp .Add) rExtR := by
  intro pins s σ H x y v u Q I rx ry h
  obtain ⟨l, b, xs, zs, rfl, rfl, hH, hB, hz, q⟩ := h
  cases rx
  cases ry
  obtain ⟨z, its, n, r, hl, e⟩ := I.lstM hH
  obtain ⟨z2, its2, n2, r2, e2⟩ := hB.ok I.hok
  have l2 := r2.length
  have fit : its.toArray.size + its2.toArray.size ≤ sizeLine := by rw [List.size_toArray, List.size_toArray]; omega
  have short : ¬ (!its.toArray.isEmpty && Builtin.List.listTooLong (its.toArray.size + its2.toArray.size)) = true := by
    rw [notLongL fit, Bool.and_false]
    exact Bool.false_ne_true
  refine iadd_road ⟨_, e, rfl⟩ ⟨_, e2, rfl⟩ (call_meets PySem.F.slot_list_iadd ⟨_, e, rfl⟩ PySem.F.entry_list_iadd (PySem.F.args_list_iadd_2 _ _) (AutoSeq1.list___iadd___list_list_0 l its.toArray n b its2.toArray n2 short (by rw [List.size_toArray]; omega) (by omega)) ⟨e, e2, ?_⟩)
  exact ⟨.ref l, _, I.lset (its' := its ++ its2) (t' := s.toks) hH e (by simp) (r.append r2) (by rw [List.length_append]; omega), rfl, q⟩
theorem Acc.rdl {v : V} {xs : List PV} (h : Acc G.toEn H M v (.lst xs)) : ∃ a vs, v = .ref a ∧ Rd H a (.lst vs) ∧ RepAll G.toEn H M vs xs := by
  rcases h with h | ⟨a, rfl, vs, h1, h2⟩
  · cases h with
    | lst s r => exact ⟨_, _, rfl, s.1, r⟩
  · exact ⟨a, vs, rfl, .inl h1, h2⟩
theorem s_augAdd {i : Nat} {x : Str} {pos' : Pos} (gd : Good G lv X) (ha : PE X a (LE G qa)) (hi : X.N[i]? = some x := by rfl) (hx : Loc X.env.scope x := by first | exact Or.inl rfl | exact Or.inr rfl) (hf : X.fn x = true ∨ X.env.scope.names.lookup x = some .local := by first | exact .inl rfl | exact .inr rfl | assumption) :
    PS X (.AugAssign (.Name x pos') .Add a pos) (LS G (sAugAdd i qa)) := PS.imp (ps_aug gd.nd hi hx ha (pip_of (OpR.or iop_add iop_extR)) hf) fun D σ H ⟨e, M, E, S, k, f⟩ => by
    unfold sAugAdd at k
    split at k
    · rename_i p hp
      obtain ⟨v, h1, rv⟩ := S.val i p hp
      refine ⟨v, h1, e, M, _, S, k, fun r e1 k1 w H1 M1 S1 s1 R => ?_⟩
      obtain ⟨p2, a2, k2⟩ := withP_of k1
      refine .inl (l_int0 e1 M1 σ H1 v w p p2 _ (fun r => storeS i r e1 E.nx) S1 (.inl (rv.step s1)) (Res.acc S1 R a2) k2 fun r kr z H2 M2 S2 s2 R2 => ?_)
      obtain ⟨e3, M3, k3, S3, s3⟩ := store_fin S2 R2 kr
      exact f.nx e3 k3 _ H2 M3 S3 ((s1.trans s2).trans s3)
    · rename_i xs0 hp
      obtain ⟨A, h1, _⟩ := S.own i _ hp
      refine ⟨_, h1, e, M, _, S, k, fun r e1 k1 w H1 M1 S1 s1 R => ?_⟩
      obtain ⟨p2, a2, k2⟩ := withP_of k1
      split at k2
      · rename_i xs ys hc
        obtain ⟨⟨few, _⟩, k2⟩ := k2
        have gc : getC e1 i = some (.lst xs) := by unfold getC; rw [hc]; rfl
        obtain ⟨A', q1, ⟨us, hu, ru⟩, _⟩ := S1.cont gc
        rw [h1] at q1; cases q1
        obtain ⟨b, ws, rfl, rb, rw'⟩ := (Res.acc S1 R a2).rdl
        refine .inr ⟨A, b, us, ws, rfl, rfl, hu, rb, by rw [ru.length, rw'.length]; exact sz_fits few, ?_⟩
        obtain ⟨S2, s2⟩ := S1.change gc h1 (o := .lst (us ++ ws)) (p' := .lst (xs ++ ys)) (fun s => ⟨_, upd_same, (ru.step s).append (rw'.step s)⟩)
        have same : σ.set i (some (V.ref A)) = σ := List.ext_getElem? fun j => by
          by_cases c : j = i
          · subst c
            rw [List.getElem?_set_self (List.getElem?_eq_some_iff.mp h1).1, h1]
          · rw [List.getElem?_set_ne (Ne.symm c)]
        rw [same]
        exact f.nx _ k2 σ _ M1 S2 (s1.trans s2)
      · exact k2.elim
    · exact k.elim
end
end CP
namespace CP
open PySem PySem.Spec PyProof.Rows L2
def Out (g : PG1) : Prop := ∀ ss Q, g ss Q → g ss fun r ss' => Q r ss' ∧ ss'.length = ss.length
structure DefAt (K : PySem.W.Frag) (mg : Str → Option Value) (x : Str) (st : Stmt) : Prop where
  ex : ∃ f fd, Fun K x x st f fd ∧ mg x = some (.ref f)
def HasD (P : Program) (w : World) (K : PySem.W.Frag) (mg : Str → Option Value) (base : Heap) (x : Str) (ps : List Str) (k : Nat) (g : PG1) : Prop :=
  ∃ f fd, mg x = some (.ref f) ∧ PySem.W.keepIn K (.ref f) = true ∧ Binds K fd ps [] ∧ FnOk P w K mg base CX0 k f fd ps (spP ⟨P, w, K⟩ g) ∧ Out g
def HasMk (P : Program) (w : World) (K : PySem.W.Frag) (mg : Str → Option Value) (base : Heap) (x : Str) (C : Addr) (ps : List Str) (k : Nat) (g : PG1) : Prop :=
  ∃ f fd, mg x = some (.ref C) ∧ Mk K C f ∧ Binds K fd ps [] ∧ FnOk P w K mg base CX0 k f fd ps (spP ⟨P, w, K⟩ g) ∧ Out g
section
variable {G : Gh} {lv k : Nat} {X : Cx} {a : Expr} {es : List Expr} {ql : QLs} {qA : QAs} {pos p : Pos} {x : Str} {ps : List Str} {g : PG1} {C : Addr}
theorem q_callH (gd : Good G lv X) (h : HasD X.prog X.w X.K X.mg X.base x ps k g) (hk : k ≤ lv) (ha : PA X (a :: es) (LL G ql)) (hE : G.toEn = ⟨X.prog, X.w, X.K⟩ := by rfl)
    (hg : Gl X x := by rfl) (hdb : (x == ("__debug__" : Str)) = false := by decide) (he : starEach (a :: es) X.env = (false, eval a X.env) :: starEach es X.env := by rfl) (hpl : (backTo pos (starEach es X.env)).any (·.1) = false := by rfl) : PE X (.Call (.Name x p) (a :: es) [] pos) (LE G (qCall g ql)) := by
  obtain ⟨f, fd, h1, h2, h3, h4, h5⟩ := h
  rw [← hE] at h4
  exact q_call gd h4 hk h1 h2 h3 h5 ha hg hdb he hpl
theorem q_makeH (gd : Good G lv X) (h : HasMk X.prog X.w X.K X.mg X.base x C ps k g) (hk : k + 1 ≤ lv) (ha : PA X (a :: es) (LA G qA)) (hE : G.toEn = ⟨X.prog, X.w, X.K⟩ := by rfl)
    (hg : Gl X x := by rfl) (hdb : (x == ("__debug__" : Str)) = false := by decide) (he : starEach (a :: es) X.env = (false, eval a X.env) :: starEach es X.env := by rfl) (hpl : (backTo pos (starEach es X.env)).any (·.1) = false := by rfl) : PE X (.Call (.Name x p) (a :: es) [] pos) (LE G (qMake C g qA)) := by
  obtain ⟨f, fd, h1, h2, h3, h4, h5⟩ := h
  rw [← hE] at h4
  exact q_make gd h2 h4 hk h1 h3 h5 ha hg hdb he hpl
end
section
variable {P : Program} {w : World} {K : PySem.W.Frag} {mg : Str → Option Value} {base : Heap} {x : Str} {st : Stmt} {N ps : List Str} {k : Nat} {q : QS} {g : PG1}
abbrev Gh0 (P : Program) (w : World) (K : PySem.W.Frag) (H0 : Hp) (M0 : Addr → Prop) (iol : List (Nat × Addr)) : Gh := { toEn := ⟨P, w, K⟩, H0 := H0, M0 := M0, iol := iol, tmp := [] }
abbrev BodyOk (P : Program) (w : World) (K : PySem.W.Frag) (mg : Str → Option Value) (base : Heap) (N : List Str) (qual : Str) (st : Stmt) (k : Nat) (q : QS) : Prop := ∀ (f : Addr) (H0 : Hp) (M0 : Addr → Prop) (iol : List (Nat × Addr)) (cdv : Value) (A : Around) (outer : List Env) (s : Shared) (H : Hp) (E : XK), Good (Gh0 P w K H0 M0 iol) k (cxOf CX0 P w K mg base N qual (defScope st) f cdv A outer s H E).nox →
      PSs (cxOf CX0 P w K mg base N qual (defScope st) f cdv A outer s H E).nox (defBody st) (LS (Gh0 P w K H0 M0 iol) q)
abbrev BindsBy (x qual : Str) (st : Stmt) (ps : List Str) : Prop := ∀ (kV doc pm : Value) (an : Option Addr) (cdv ct : Value) (us : List Value), us.length = ps.length → bindArgs (PySem.W.fnOf x qual (defArgs st) (defBody st) (defScope st) .none kV doc pm an cdv ct) ⟨us, []⟩ = pure (ps.zip us)
theorem body_fn {qual : Str} {f : Addr} {fd : FuncData} (F : Fun K x qual st f fd) (S : FnScope N ps (defScope st)) (arity : ∀ ss Q, g ss Q → ss.length = ps.length) (hbody : BodyOk P w K mg base N qual st k q) (hq : ∀ ss Q, g ss Q → q (bodyEnds ps.length Q) (startE N.length ss)) :
    FnOk P w K mg base CX0 (k + 1) f fd ps (spP ⟨P, w, K⟩ g) := by
  refine F.ok S (fun vs H Q E h => ?_) (fun cdv A outer s H vs Q E hr h => ?_)
  · obtain ⟨ss, M, K, A, _, _, gk, _⟩ := h
    rw [A.len]; exact arity _ _ gk
  · obtain ⟨ss, M, Kq, A', one, trk, gk, fin⟩ := h
    have ar := arity _ _ gk
    have hl : ss.length ≤ N.length := by
      have := congrArg List.length S.pre
      rw [List.length_take] at this; omega
    refine ⟨_, hbody f H (fun a => M a ∧ ∀ i, ¬ LentAt vs ss i a) (iolOf 0 vs ss) cdv A outer s H E ⟨rfl, rfl, rfl, rfl, S.nd, hr⟩, startE N.length ss, M, bodyEnds ps.length Kq, start_ok A' one trk hl, hq ss Kq gk, ?_⟩
    rw [← ar]
    exact body_ends A' fin
theorem def_has (D : DefAt K mg x st) (S : FnScope N ps (defScope st)) (bd : BindsBy x x st ps) (arity : ∀ ss Q, g ss Q → ss.length = ps.length) (out : Out g) (hbody : BodyOk P w K mg base N x st k q) (hq : ∀ ss Q, g ss Q → q (bodyEnds ps.length Q) (startE N.length ss)) : HasD P w K mg base x ps (k + 1) g := by
  obtain ⟨f, fd, F, hm⟩ := D.ex
  exact ⟨f, fd, hm, F.kp, F.binds bd, body_fn F S arity hbody hq, out⟩
theorem mk_has {C : Addr} {cx : Str} {qual : Str} (D : ∃ f fd, Fun K "__init__" qual st f fd ∧ Mk K C f) (hm : mg cx = some (.ref C)) (S : FnScope N ps (defScope st)) (bd : BindsBy "__init__" qual st ps) (arity : ∀ ss Q, g ss Q → ss.length = ps.length) (out : Out g) (hbody : BodyOk P w K mg base N qual st k q) (hq : ∀ ss Q, g ss Q → q (bodyEnds ps.length Q) (startE N.length ss)) : HasMk P w K mg base cx C ps (k + 1) g := by
  obtain ⟨f, fd, F, M⟩ := D
  exact ⟨f, fd, hm, M, F.binds bd, body_fn F S arity hbody hq, out⟩
end
def v_LETTERS : Str := "abcdefghijklmnopqrstuvwxyz"
end CP
namespace CP
open PySem PySem.Spec PyProof.Rows L2
def strLt (x y : Str) : Bool := decide (x.cps.toList < y.cps.toList)
structure Enc (α : Type) [DecidableEq α] where
  f : α → PV
  lt : α → α → Bool
  ok : α → Bool
  isD : ∀ a, PV.isD (f a) = true
  depth : ∀ a, (PV.toD (f a)).depth ≤ 10
  eqv : ∀ a b, PyData.eqv (PV.toD (f a)) (PV.toD (f b)) = decide (a = b)
  alike : ∀ a b, PySem.W.alike (PV.toD (f a)) (PV.toD (f b)) = true
  dlt : ∀ a b, PySem.W.dataLt (PV.toD (f a)) (PV.toD (f b)) = lt a b
  nn : ∀ a, PV.toD (f a) ≠ .none
  lay : ∀ a, ok a = true → (PV.toD (f a)).canLay0 = true
  irr : ∀ a, lt a a = false
  trans : ∀ a b c, lt a b = true → lt b c = true → lt a c = true
  total : ∀ a b, a ≠ b → lt a b = false → lt b a = true
  kk : ∀ a, PV.kOk (f a) = true
  kd : ∀ a, (PV.nk (f a)).depth ≤ 4
  kinj : ∀ a b, PV.nk (f a) = PV.nk (f b) → a = b
  srt : ∀ xs : List α, PySem.W.Sortable (xs.map fun x => PV.toD (f x))
def encS : Enc Str where
  f := .str
  lt := strLt
  ok := fun x => PyData.strOk x
  isD := fun _ => rfl
  depth := fun a => by simp [PV.toD, PyData.depth]
  eqv := fun x y => by
    simp only [PV.toD, PyData.eqv]
    by_cases h : x = y
    · subst h; simp
    · simp [h]
  alike := fun _ _ => by simp [PV.toD, PySem.W.alike]
  dlt := fun x y => by simp only [PV.toD]; rw [PySem.W.dataLt_str]; rfl
  nn := fun a h => by simp [PV.toD] at h
  lay := fun a h => by simp only [PV.toD, PyData.canLay0]; exact h
  irr := fun a => decide_eq_false (List.lt_irrefl _)
  trans := fun a b c h1 h2 => decide_eq_true (List.lt_trans (of_decide_eq_true h1) (of_decide_eq_true h2))
  total := fun x y h h2 => by
    refine decide_eq_true ?_
    have n : ¬ x.cps.toList < y.cps.toList := of_decide_eq_false h2
    rcases List.le_iff_lt_or_eq.mp (List.not_lt.mp n) with l | e
    · exact l
    · exact absurd (PySem.W.str_of_cps e.symm) h
  kk := fun _ => rfl
  kd := fun a => by simp [PV.nk, NestedKey.depth]
  kinj := fun a b h => by simpa [PV.nk] using h
  srt := fun xs => .inr fun d h => by
    obtain ⟨x, _, rfl⟩ := List.mem_map.mp h
    exact ⟨by simp [PV.toD], fun ys => by simp [PV.toD]⟩
def encI : Enc Int where
  f := .int
  lt := fun i j => decide (i < j)
  ok := fun _ => true
  isD := fun _ => rfl
  depth := fun a => by simp [PV.toD, PyData.depth]
  eqv := fun x y => by
    simp only [PV.toD, PyData.eqv]
    by_cases h : x = y
    · subst h; simp
    · simp [h]
  alike := fun _ _ => by simp [PV.toD, PySem.W.alike]
  dlt := fun x y => by simp only [PV.toD]; rw [PySem.W.dataLt_int]
  nn := fun a h => by simp [PV.toD] at h
  lay := fun a h => by simp only [PV.toD, PyData.canLay0]
  irr := fun a => decide_eq_false (by omega)
  trans := fun a b c h1 h2 => decide_eq_true (by have := of_decide_eq_true h1; have := of_decide_eq_true h2; omega)
  total := fun x y h h2 => decide_eq_true (by have := of_decide_eq_false h2; omega)
  kk := fun _ => rfl
  kd := fun a => by simp [PV.nk, NestedKey.depth]
  kinj := fun a b h => by simpa [PV.nk] using h
  srt := fun xs => .inr fun d h => by
    obtain ⟨x, _, rfl⟩ := List.mem_map.mp h
    exact ⟨by simp [PV.toD], fun ys => by simp [PV.toD]⟩
section
variable {α β : Type} [DecidableEq α] [DecidableEq β]
theorem toD_tup2 (p q : PV) : PV.toD (.tup [p, q]) = .tuple [PV.toD p, PV.toD q] := by simp [PV.toD, PV.toDs]
def lexLt (A : Enc α) (B : Enc β) (x y : α × β) : Bool := if x.1 = y.1 then B.lt x.2 y.2 else A.lt x.1 y.1
theorem data_pair (A : Enc α) (B : Enc β) (x y : α × β) : PySem.W.dataLt (.tuple [PV.toD (A.f x.1), PV.toD (B.f x.2)]) (.tuple [PV.toD (A.f y.1), PV.toD (B.f y.2)]) = lexLt A B x y := by
  rw [PySem.W.dataLt_pair (A.alike _ _) (B.alike _ _), A.eqv, B.eqv, A.dlt, B.dlt]
  unfold lexLt
  by_cases h1 : x.1 = y.1
  · by_cases h2 : x.2 = y.2
    · simp [h1, h2, B.irr]
    · simp [h1, h2]
  · simp [h1]
def encP (A : Enc α) (B : Enc β) (da : ∀ a, (PV.toD (A.f a)).depth ≤ 5) (db : ∀ a, (PV.toD (B.f a)).depth ≤ 5) (ka : ∀ a, (PV.nk (A.f a)).depth ≤ 3) (kb : ∀ a, (PV.nk (B.f a)).depth ≤ 3) : Enc (α × β) where
  f := fun p => .tup [A.f p.1, B.f p.2]
  lt := lexLt A B
  ok := fun p => A.ok p.1 && B.ok p.2
  isD := fun p => by simp [PV.isD, PV.isDs, A.isD, B.isD]
  depth := fun p => by
    rw [toD_tup2]
    have h1 := da p.1
    have h2 := db p.2
    simp only [PyData.depth, PyData.depthAll]
    omega
  eqv := fun x y => by
    rw [toD_tup2, toD_tup2]
    simp only [PyData.eqv, PyData.eqvAll, A.eqv, B.eqv, Bool.and_true]
    by_cases h1 : x.1 = y.1 <;> by_cases h2 : x.2 = y.2 <;> simp [h1, h2, Prod.ext_iff]
  alike := fun x y => by
    rw [toD_tup2, toD_tup2]
    simp [PySem.W.alike, PySem.W.alikeAll, A.alike, B.alike]
  dlt := fun x y => by rw [toD_tup2, toD_tup2, data_pair]
  nn := fun x h => by rw [toD_tup2] at h; cases h
  lay := fun x h => by
    rw [Bool.and_eq_true_iff] at h
    rw [toD_tup2]
    simp [PyData.canLay0, PyData.canLayAll0, A.lay _ h.1, B.lay _ h.2]
  irr := fun x => by unfold lexLt; rw [if_pos rfl, B.irr]
  trans := fun x y z h1 h2 => by
    unfold lexLt at *
    by_cases a : x.1 = y.1
    · rw [if_pos a] at h1
      by_cases b : y.1 = z.1
      · rw [if_pos b] at h2; rw [if_pos (a.trans b)]; exact B.trans _ _ _ h1 h2
      · rw [if_neg b] at h2; rw [if_neg (fun e => b (a.symm.trans e)), a]; exact h2
    · rw [if_neg a] at h1
      by_cases b : y.1 = z.1
      · rw [if_neg (fun e => a (e.trans b.symm)), ← b]; exact h1
      · rw [if_neg b] at h2
        have t := A.trans _ _ _ h1 h2
        by_cases c : x.1 = z.1
        · rw [c, A.irr] at t; cases t
        · rw [if_neg c]; exact t
  total := fun x y h h2 => by
    unfold lexLt at *
    by_cases a : x.1 = y.1
    · rw [if_pos a] at h2; rw [if_pos a.symm]
      exact B.total _ _ (fun e => h (Prod.ext a e)) h2
    · rw [if_neg a] at h2; rw [if_neg (fun e => a e.symm)]; exact A.total _ _ a h2
  kk := fun x => by simp [PV.kOk, PV.kOks, A.kk, B.kk]
  kd := fun x => by
    have h1 := ka x.1
    have h2 := kb x.2
    simp only [PV.nk, PV.nks, NestedKey.depth, NestedKey.depthAll]
    omega
  kinj := fun x y h => by
    simp only [PV.nk, PV.nks, NestedKey.tup.injEq, List.cons.injEq, and_true] at h
    exact Prod.ext (A.kinj _ _ h.1) (B.kinj _ _ h.2)
  srt := fun xs => .inl fun d h => by
    obtain ⟨x, _, rfl⟩ := List.mem_map.mp h
    exact ⟨_, _, toD_tup2 _ _⟩
variable (A : Enc α)
theorem Enc.inj {a b : α} (h : A.f a = A.f b) : a = b := A.kinj a b (by rw [h])
def Enc.srtd (xs : List α) : List α := xs.mergeSort fun a b => !A.lt b a
def Enc.asc (xs : List α) : Prop := xs.Pairwise fun a b => A.lt a b = true
theorem Enc.asymm {a b : α} (h : A.lt a b = true) : A.lt b a = false := by
  cases c : A.lt b a with
  | false => rfl
  | true => have := A.trans _ _ _ h c; rw [A.irr] at this; cases this
theorem Enc.srtd_perm (xs : List α) : (A.srtd xs).Perm xs := List.mergeSort_perm _ _
theorem Enc.srtd_le (xs : List α) : (A.srtd xs).Pairwise fun a b => A.lt b a = false := by
  have h := List.pairwise_mergeSort (le := fun a b => !A.lt b a) (fun a b c h1 h2 => by
    simp only [Bool.not_eq_true'] at *
    cases q : A.lt c a with
    | false => rfl
    | true =>
      by_cases e : a = b
      · subst e; rw [h2] at q; cases q
      · have l1 : A.lt a b = true := A.total _ _ (fun z => e z.symm) h1
        have := A.trans _ _ _ q l1
        rw [h2] at this; cases this) (fun a b => by
    cases q : A.lt b a with
    | false => simp
    | true => simp [A.asymm q]) xs
  exact h.imp fun h => by simpa using h
theorem Enc.srtd_asc {xs : List α} (nd : xs.Nodup) : A.asc (A.srtd xs) := by
  have h1 := A.srtd_le xs
  have h2 : (A.srtd xs).Nodup := (A.srtd_perm xs).nodup_iff.mpr nd
  exact (h1.and h2).imp fun {a b} ⟨h, n⟩ => A.total _ _ (fun e => n e.symm) h
theorem Enc.asc_unique : ∀ {l m : List α}, l.Perm m → A.asc l → A.asc m → l = m
  | [], m, h, _, _ => h.nil_eq
  | p :: l, [], h, _, _ => absurd h.length_eq (by simp)
  | p :: l, q :: m, h, h1, h2 => by
    have e : p = q := by
      by_cases c : p = q
      · exact c
      · have a : p ∈ m := (List.mem_cons.mp (h.mem_iff.mp (List.mem_cons_self (a := p) (l := l)))).resolve_left c
        have b : q ∈ l := (List.mem_cons.mp (h.mem_iff.mpr (List.mem_cons_self (a := q) (l := m)))).resolve_left fun z => c z.symm
        have u := (List.pairwise_cons.mp h1).1 q b
        have v := (List.pairwise_cons.mp h2).1 p a
        rw [A.asymm u] at v; cases v
    subst e
    rw [Enc.asc_unique (List.Perm.cons_inv h) (List.pairwise_cons.mp h1).2 (List.pairwise_cons.mp h2).2]
theorem Enc.asc_nd {l : List α} (h : A.asc l) : l.Nodup := h.imp fun {a b} q e => by rw [e, A.irr] at q; cases q
theorem Enc.srtd_of_asc {l : List α} (h : A.asc l) : A.srtd l = l := A.asc_unique (A.srtd_perm l) (A.srtd_asc (A.asc_nd h)) h
theorem Enc.srtd_len (l : List α) : (A.srtd l).length = l.length := (A.srtd_perm l).length_eq
theorem Enc.sortP (xs : List α) : CP.sortP (xs.map A.f) = (A.srtd xs).map A.f := by
  unfold CP.sortP Enc.srtd
  refine (List.map_mergeSort fun a _ b _ => ?_).symm
  show _ = !PySem.W.dataLt (PV.toD (A.f b)) (PV.toD (A.f a))
  rw [A.dlt]
theorem Enc.sortd (xs : List α) : Sortd (xs.map A.f) := by
  refine ⟨?_, fun d hd d' hd' => ?_, ?_, fun x hx => ?_⟩
  · rw [isDs_all, List.all_map]; exact List.all_eq_true.mpr fun x _ => A.isD x
  · rw [List.map_map] at hd hd'
    obtain ⟨x, _, rfl⟩ := List.mem_map.mp hd
    obtain ⟨y, _, rfl⟩ := List.mem_map.mp hd'
    exact A.alike x y
  · rw [List.map_map]; exact A.srt xs
  · obtain ⟨y, _, rfl⟩ := List.mem_map.mp hx
    exact Nat.le_trans (A.depth y) (by decide)
def Enc.oks (xs : List α) : Bool := xs.all A.ok
theorem Enc.shp {a : α} (h : A.ok a = true) : Shp (A.f a) := by
  refine ⟨A.isD a, ?_⟩
  unfold SeqAt.shaped
  rw [A.lay a h]
  exact decide_eq_true (Nat.le_trans (A.depth a) (by decide))
theorem Enc.lays {xs : List α} (h : A.oks xs = true) : PyData.canLayAll0 (PV.toDs (xs.map A.f)) = true := by
  induction xs with
  | nil => simp [PV.toDs, PyData.canLayAll0]
  | cons x xs ih =>
    unfold Enc.oks at h ih
    rw [List.all_cons, Bool.and_eq_true_iff] at h
    simp [PV.toDs, PyData.canLayAll0, A.lay x h.1, ih h.2]
theorem Enc.depths (xs : List α) : PyData.depthAll (PV.toDs (xs.map A.f)) ≤ 10 := by
  induction xs with
  | nil => simp [PV.toDs, PyData.depthAll]
  | cons x xs ih =>
    have := A.depth x
    simp only [List.map_cons, PV.toDs, PyData.depthAll]
    omega
theorem Enc.shpL {xs : List α} (h : A.oks xs = true) : Shp (.lst (xs.map A.f)) := by
  refine ⟨?_, ?_⟩
  · rw [PV.isD, isDs_all, List.all_map]; exact List.all_eq_true.mpr fun x _ => A.isD x
  · unfold SeqAt.shaped
    have d := A.depths xs
    simp only [PV.toD, PyData.canLay0, A.lays h, PyData.depth, Bool.true_and]
    exact decide_eq_true (by omega)
theorem Enc.shpT {xs : List α} (h : A.oks xs = true) : Shp (.tup (xs.map A.f)) := by
  refine ⟨?_, ?_⟩
  · rw [PV.isD, isDs_all, List.all_map]; exact List.all_eq_true.mpr fun x _ => A.isD x
  · unfold SeqAt.shaped
    have d := A.depths xs
    simp only [PV.toD, PyData.canLay0, A.lays h, PyData.depth, Bool.true_and]
    exact decide_eq_true (by omega)
theorem Enc.has (xs : List α) (x : α) : hasP (xs.map A.f) (A.f x) = decide (x ∈ xs) := by
  unfold hasP
  induction xs with
  | nil => simp [PV.toDs]
  | cons y xs ih =>
    simp only [List.map_cons, PV.toDs, List.any_cons, A.eqv, ih]
    by_cases h1 : y = x
    · subst h1; simp
    · have : ¬ x = y := fun e => h1 e.symm
      simp [h1, this]
theorem Enc.keyA (a : α) : CP.keyA (A.f a) = true ∨ isT (A.f a) = false := by
  cases h : isT (A.f a) with
  | false => exact .inr rfl
  | true =>
    refine .inl ?_
    have e : ∃ xs, A.f a = .tup xs := by
      cases q : A.f a <;> rw [q] at h <;> first | exact ⟨_, rfl⟩ | cases h
    obtain ⟨xs, e⟩ := e
    have k1 := A.kk a
    have k2 := A.kd a
    rw [e] at k1 k2 ⊢
    show PV.keyB (.tup xs) = true
    unfold PV.keyB
    rw [k1]
    simp only [Bool.true_and, Bool.and_true]
    exact decide_eq_true (by omega)
end
end CP
namespace CP
open PySem PySem.Spec PyProof.Rows L2
section
variable {P : Program} {w : World} {A : Around} {E : Value → Shared → Prop} {s : Shared} {a b : Addr} {L : List (Addr × KN)} {es : Array (Int × Value)} {ep : Nat} {t : SetTable}
theorem perm_of_map {α β : Type} {f : α → β} {ys : List β} {L : List α} (pm : ys.Perm (L.map f)) : ∃ Ls : List α, ys = Ls.map f ∧ Ls.Perm L := by
  obtain ⟨W, h1, h2⟩ := lift_perm pm.symm (L.map fun x => (f x, x)) (by rw [List.map_map]; rfl)
  refine ⟨W.map (·.2), ?_, ?_⟩
  · rw [← h1, List.map_map]
    refine List.map_congr_left fun w hw => ?_
    obtain ⟨x, _, rfl⟩ := List.mem_map.mp (h2.mem_iff.mp hw)
    rfl
  · have := h2.map (·.2)
    rw [List.map_map] at this
    have e : (L.map ((·.2) ∘ fun x => (f x, x))) = L := by simp [Function.comp_def]
    rw [e] at this
    exact this
end
end CP
namespace CP
open PySem PySem.Spec PyProof.Rows L2
section
variable {X : Cx} {pins : List (Addr × PySem.Obj)} {σ : L2.St} {H : Hp} {s : Shared}
end
section
variable {G : Gh} {lv : Nat} {X : Cx} {a b : Expr} {qa qb : QE} {pos p p2 q2 p3 q3 pos2 : Pos} {e : PEnv} {M : Addr → Prop} {σ : L2.St} {H : Hp}
end
end CP
namespace CP
open PySem PySem.Spec PyProof.Rows L2
section
variable {G : Gh} {lv : Nat} {X : Cx} {a b o : Expr} {es : List Expr} {qa qb qo : QE} {qA : QAs} {pos p apos cpos : Pos} {e : PEnv} {M : Addr → Prop} {σ : L2.St} {H : Hp}
def sPar (i j : Nat) (q : QAs) : QS := fun E e => q e fun ps e1 => match ps with
  | [x, y] => freeS e1 i (freeS (e1.set i (.val x)) j (E.nx ((e1.set i (.val x)).set j (.val y))))
  | _ => False
theorem s_par {i j : Nat} {x y : Str} {px py pt : Pos} {kt k2 pt2} (g : Good G lv X) (ha : PA X [a, b] (LA G qA)) (hi : X.N[i]? = some x := by rfl) (hj : X.N[j]? = some y := by rfl) (hij : i ≠ j := by decide)
    (hx : X.env.scope.names.lookup x = some .local := by rfl) (hy : X.env.scope.names.lookup y = some .local := by rfl)
    (hw : swappedStores [.Tuple [.Name x px, .Name y py] kt pt] (.Tuple [a, b] k2 pt2) X.env = pure (some [x, y]) := by rfl)
    (hs : swapsWithSole [.Tuple [.Name x px, .Name y py] kt pt] (.Tuple [a, b] k2 pt2) pos.line X.env = pure false := by rfl) :
    PS X (.Assign [.Tuple [.Name x px, .Name y py] kt pt] (.Tuple [a, b] k2 pt2) pos) (LS G (sPar i j qA)) := PS.imp (ps_par g.calm g.nd hi hj hij hx hy ha hw hs) fun D σ H ⟨e, M, E, S, k, f⟩ => ⟨e, M, _, S, k, fun ps e1 k1 vs H1 M1 S1 s1 R1 => by
  split at k1
  · rename_i p q
    obtain ⟨h1, n1, k1⟩ := freeS_of k1
    obtain ⟨h2, n2, k1⟩ := freeS_of k1
    obtain ⟨v, w, rfl, r1, r2⟩ := rep2 R1
    have S2 := S1.setVal h1 n1 r1
    have S3 := S2.setVal h2 n2 r2
    exact ⟨v, w, rfl, f.nx _ k1 _ _ _ S3 s1⟩
  · exact k1.elim⟩
def qCallK (g : PG1) (q : QAs) : QE := fun e Q => q e fun ps e1 => g (ps.map .val) fun r _ => match r with
  | .bor _ => False
  | r => Q r e1
theorem q_callK {x : Str} {k : Nat} {ps : List Str} {g : PG1} (gd : Good G lv X) (h : HasD X.prog X.w X.K X.mg X.base x ps k g) (hk : k ≤ lv) (ha : PA X (a :: es) (LA G qA)) (hE : G.toEn = ⟨X.prog, X.w, X.K⟩ := by rfl)
    (hg : Gl X x := by rfl) (hdb : (x == ("__debug__" : Str)) = false := by decide) (he : starEach (a :: es) X.env = (false, eval a X.env) :: starEach es X.env := by rfl) (hpl : (backTo pos (starEach es X.env)).any (·.1) = false := by rfl) : PE X (.Call (.Name x p) (a :: es) [] pos) (LE G (qCallK g qA)) := by
  obtain ⟨f, fd, hm, kp, hb, F, hout⟩ := h
  rw [← hE] at F
  refine PE.imp (pe_call F (gd.room.mono hk) hg hm kp hb .nil pass0 ha hdb he hpl) fun σ H Q ⟨e, M, K, S, q, fin⟩ => ⟨e, M, _, S, q, fun ps e1 k1 vs H1 M1 S1 s1 R => ?_⟩
  have A : AvOk G e1 M1 σ H1 vs (keptAs ps) := avOk_kept R
  have hs := argSs_kept e1 ps
  have nd : (lents (keptAs ps)).Nodup := by rw [lents_kept]; exact List.nodup_nil
  obtain ⟨A', _, lent⟩ := args_ok S1 A hs
  have no : ∀ i b, ¬ LentAt vs (ps.map Sl.val) i b := fun i b ⟨_, q, h⟩ => by
    rw [List.getElem?_map] at h
    cases c : ps[i]? with
    | none => rw [c] at h; cases h
    | some z => rw [c] at h; cases h
  show spP G.toEn g (vs ++ []) H1 Q E0
  rw [List.append_nil]
  refine ⟨_, M1, _, A', fun i j b hi _ => absurd hi (no i b), S1.trk, hout _ _ k1, fun r ss' ⟨kr, hl⟩ v H' M' E => ?_⟩
  obtain ⟨S5, s5, R5⟩ := call_back S1 A nd hs E hl
  rw [putB_kept] at S5 R5
  cases r with
  | bor i => exact kr.elim
  | sh pr => exact fin _ _ kr v H' M' S5 (s1.trans s5) (R5 pr (.inl rfl))
  | fr pr => exact fin _ _ kr v H' M' S5 (s1.trans s5) (R5 pr (.inr rfl))
variable {x : Str} {k : Nat} {f : Addr} {fd : FuncData} {ps : List Str} {g : PG1}
end
end CP
namespace CP
open PySem PySem.Spec PyProof.Rows L2
section
variable {X : Cx}
abbrev rTupF (K : PySem.W.Frag) : List V → Hp → VK → Prop := fun xs H Q => ∃ p ys, xs = [.ref p] ∧ SqL K H p ys ∧ ∀ (l : Addr) (o : PySem.Obj), H l = none → o.dict = none → Q (.ref l) (L2.upd H l (.frz o (.tup ys)))
theorem call_tupleF : CallR X (.type "tuple") (rTupF X.K) := by
  intro pins s σ H xs us Q I r h
  obtain ⟨p, ys, rfl, hq, q⟩ := h
  obtain ⟨u, rfl, rx⟩ := vals1 r
  cases rx
  obtain ⟨its, r', pl, hz⟩ := I.list hq
  have hlen := r'.length
  refine call_tuple_list pl.isList (fun h' kp => ?_) (by simp only [List.size_toArray] <;> omega)
  have I1 : L2.Inv X pins σ H { s with heap := h' } := I.kept (t' := s.toks) kp
  have I2 : L2.Inv X pins σ (L2.upd H h'.objs.size (.frz { cls := .type "tuple", data := .seq its.toArray } (.tup ys))) { s with heap := h'.push { cls := .type "tuple", data := .seq its.toArray } } :=
    I1.laid (t' := s.toks) (fun b o e => Heap.get?_push_of_some _ e) (Nat.le_refl _) ⟨Heap.get?_push_size _ rfl, hz, its, r', IsTup.new _ _⟩
  exact ⟨.ref h'.objs.size, _, I2, rfl, q _ _ (I1.hok.fresh (Nat.le_refl _)) rfl⟩
variable {G : Gh} {lv : Nat} {a b o : Expr} {es : List Expr} {qa qb qo : QE} {qA : QAs} {pos p apos cpos : Pos} {e : PEnv} {M : Addr → Prop} {σ : L2.St} {H : Hp}
def strsP (p : PV) (k : List Str → Prop) : Prop := match p with
  | .lst xs => ∃ ys : List Str, xs = ys.map .str ∧ k ys
  | _ => False
theorem strsP_of {p : PV} {k : List Str → Prop} (h : strsP p k) : ∃ ys : List Str, p = .lst (ys.map .str) ∧ k ys := by
  unfold strsP at h
  split at h
  · obtain ⟨ys, rfl, k⟩ := h; exact ⟨ys, rfl, k⟩
  · exact h.elim
def sFldT (C : Addr) (i : Nat) (f : Str) (q : QE) : QS := fun E e => q e fun r e1 => keep r e1 fun x e2 => strsP x fun ys => match getC e2 i with
  | some (.ins D ns vs) => (D = C ∧ ns.length < 900) ∧ E.nx (putC e2 i (.ins C (putNs f ns) (putVs f (.tup (ys.map .str)) ns vs)))
  | _ => False
theorem rep_strsT {G : En} {H : Hp} {M : Addr → Prop} : ∀ {us : List V} {ns : List Str}, RepAll G H M us (ns.map .str) → us = ns.map V.str
  | _, [], r => by cases r; rfl
  | _, n :: ns, r => by
    cases r with
    | cons r0 rt => cases r0; rw [rep_strsT rt]; rfl
theorem s_fldT {i : Nat} {C : Addr} {pos' : Pos} (g : Good G lv X) (cl : Cls X.K C) (na : NoAttr X.K C "vertices") (hm : X.mg "tuple" = none) (ho : PE X o (tVar i)) (ha : PE X a (LE G qa)) (hg : Gl X "tuple" := by rfl)
    (he : starEach [a] X.env = (false, eval a X.env) :: starEach [] X.env := by rfl) (hpl : (backTo cpos (starEach [] X.env)).any (·.1) = false := by rfl) :
    PS X (.Assign [.Attribute o "vertices" pos'] (.Call (.Name "tuple" p) [a] [] cpos) pos) (LS G (sFldT C i "vertices" qa)) :=
  PS.imp (ps_fld ho (pe_callTy (call_tupleF (X := X)) hg hm (by decide +kernel) (pa_cons ha pa_nil he) (by decide) (by decide) he hpl) rfl) fun D σ H ⟨e, M, E, S, k, fin⟩ => ⟨e, M, _, S, k, fun r e1 k1 v H1 M1 S1 s1 R => by
    obtain ⟨x, e2, M2, k2, S2, s2, R2⟩ := keep_ok S1 R k1
    obtain ⟨ys, ex, k3⟩ := strsP_of k2
    clear k2
    subst ex
    split at k3
    · rename_i D0 ns vs hp
      obtain ⟨⟨eD, few⟩, k4⟩ := k3
      subst eD
      cases R2 with
      | lst sl rr =>
        rename_i a1 us
        refine ⟨a1, us, rfl, sl.sq, fun l ob hl hd => ?_⟩
        have s0 : Step H1 M2 (L2.upd H1 l (.frz ob (.tup us))) M2 := step_new hl
        have S0 := S2.new (o := .frz ob (.tup us)) hl
        obtain ⟨A, h1, ⟨dx, fs, h2, rfl, rf, vo⟩, _⟩ := S0.cont hp
        have nM : ¬ M2 l := fun z => S2.trk l z hl
        have eu := rep_strsT rr
        have R3 : Rep G.toEn (L2.upd H1 l (.frz ob (.tup us))) M2 (.ref l) (.tup (ys.map .str)) := .tup ⟨.inr ⟨fun v hv => by rw [eu] at hv; obtain ⟨y, _, rfl⟩ := List.mem_map.mp hv; exact ⟨y, rfl⟩, ob, upd_same⟩, nM⟩ (rr.step s0)
        obtain ⟨g1, g2⟩ := putF_rep (f := "vertices") R3 rf
        refine ⟨.ref A, h1, A, _, dx, fs, rfl, h2, cl, na, by rw [List.length_map] at few; omega, ?_⟩
        obtain ⟨S3, s3⟩ := S0.change hp h1 (o := .ins _ dx (putF "vertices" (.ref l) fs)) (p' := .ins _ (putNs "vertices" (fs.map (·.1))) (putVs "vertices" (.tup (ys.map .str)) (fs.map (·.1)) vs)) (fun s => ⟨dx, _, upd_same, g1, g2.step s, fun u hu => by
          rw [putF_same] at hu
          cases hu
          exact ⟨l, ob, us, rfl, s.keep _ _ upd_same nM, hd, s.nm upd_same nM⟩⟩)
        exact fin.nx _ k4 σ _ M2 S3 (((s1.trans s2).trans s0).trans s3)
    · exact k3.elim⟩
end
end CP
namespace CP
def par (n : Nat) : Bool := if h : n = 0 then false else (n % 2 == 1) ^^ par (n / 2)
theorem par_zero : par 0 = false := by rw [par]; rfl
theorem par_step (n : Nat) : par n = ((n % 2 == 1) ^^ par (n / 2)) := by
  by_cases h : n = 0
  · subst h; rw [par_zero]; rfl
  · rw [par, dif_neg h]
theorem par_xor : ∀ a b : Nat, par (a ^^^ b) = (par a ^^ par b) := by
  intro a
  induction a using Nat.strongRecOn with
  | _ a ih =>
    intro b
    by_cases h : a = 0
    · subst h; rw [Nat.zero_xor, par_zero, Bool.false_xor]
    · rw [par_step (a ^^^ b), par_step a, par_step b, Nat.xor_div_two, ih (a / 2) (by omega)]
      have : ((a ^^^ b) % 2 == 1) = ((a % 2 == 1) ^^ (b % 2 == 1)) := by
        have o := @Nat.xor_mod_two_eq_one a b
        have c1 : a % 2 = 0 ∨ a % 2 = 1 := by omega
        have c2 : b % 2 = 0 ∨ b % 2 = 1 := by omega
        have c3 : (a ^^^ b) % 2 = 0 ∨ (a ^^^ b) % 2 = 1 := by omega
        rcases c1 with c1 | c1 <;> rcases c2 with c2 | c2 <;> rcases c3 with c3 | c3 <;> simp_all
      rw [this]
      cases (a % 2 == 1) <;> cases (b % 2 == 1) <;> cases par (a / 2) <;> cases par (b / 2) <;> rfl
theorem par_pow : ∀ k : Nat, par (2 ^ k) = true
  | 0 => by rw [par_step]; simp [par_zero]
  | k + 1 => by
    rw [par_step, Nat.pow_succ, Nat.mul_mod_left, Nat.mul_div_cancel _ (by decide), par_pow k]; rfl
def dot (a b : Nat) : Bool := par (a &&& b)
theorem dot_comm (a b : Nat) : dot a b = dot b a := by unfold dot; rw [Nat.and_comm]
theorem dot_xor (a b c : Nat) : dot (a ^^^ b) c = (dot a c ^^ dot b c) := by unfold dot; rw [Nat.and_xor_distrib_right, par_xor]
theorem dot_zero (a : Nat) : dot 0 a = false := by unfold dot; rw [Nat.zero_and, par_zero]
theorem and_pow (n k : Nat) : n &&& 2 ^ k = if n.testBit k then 2 ^ k else 0 := by
  refine Nat.eq_of_testBit_eq fun i => ?_
  rw [Nat.testBit_and, Nat.testBit_two_pow]
  by_cases c : k = i
  · subst c
    cases h : n.testBit k <;> simp [h, Nat.testBit_two_pow]
  · cases h : n.testBit k <;> simp [c, Nat.testBit_two_pow]
def low (n : Nat) : Nat := n - (n &&& (n - 1))
theorem low_spec : ∀ n : Nat, 0 < n → ∃ k, n.testBit k = true ∧ (∀ i, i < k → n.testBit i = false) ∧ n &&& (n - 1) = n ^^^ 2 ^ k ∧ low n = 2 ^ k := by
  intro n
  induction n using Nat.strongRecOn with
  | _ n ih =>
    intro h
    by_cases o : n % 2 = 1
    · have e1 : n &&& (n - 1) = n - 1 := by
        refine Nat.eq_of_testBit_eq fun i => ?_
        rw [Nat.testBit_and]
        cases i with
        | zero =>
          have : (n - 1).testBit 0 = false := by rw [Nat.testBit_zero]; exact decide_eq_false (by omega)
          rw [this, Bool.and_false]
        | succ i =>
          rw [Nat.testBit_succ, Nat.testBit_succ, show (n - 1) / 2 = n / 2 by omega, Bool.and_self]
      have e2 : n - 1 = n ^^^ 2 ^ 0 := by
        refine Nat.eq_of_testBit_eq fun i => ?_
        rw [Nat.testBit_xor]
        cases i with
        | zero => rw [Nat.testBit_zero, Nat.testBit_zero, Nat.testBit_zero]; simp [o]; omega
        | succ i =>
          rw [Nat.testBit_succ, Nat.testBit_succ, show (n - 1) / 2 = n / 2 by omega, Nat.testBit_two_pow]
          simp
      refine ⟨0, by rw [Nat.testBit_zero]; exact decide_eq_true o, fun i hi => absurd hi (Nat.not_lt_zero _), by rw [e1, e2], ?_⟩
      unfold low; rw [e1]; simp; omega
    · obtain ⟨k, h1, h2, h3, h4⟩ := ih (n / 2) (by omega) (by omega)
      have e : n = 2 * (n / 2) := by omega
      have tb : ∀ i, n.testBit (i + 1) = (n / 2).testBit i := fun i => Nat.testBit_succ ..
      have e1 : n &&& (n - 1) = 2 * ((n / 2) &&& (n / 2 - 1)) := by
        refine Nat.eq_of_testBit_eq fun i => ?_
        rw [Nat.testBit_and]
        cases i with
        | zero =>
          have : n.testBit 0 = false := by rw [Nat.testBit_zero]; exact decide_eq_false o
          rw [this, Bool.false_and, Nat.testBit_zero]; simp
        | succ i => rw [Nat.testBit_succ, Nat.testBit_succ, Nat.testBit_succ, show (n - 1) / 2 = n / 2 - 1 by omega, Nat.mul_div_cancel_left _ (by decide : 0 < 2), Nat.testBit_and]
      have e2 : n ^^^ 2 ^ (k + 1) = 2 * ((n / 2) ^^^ 2 ^ k) := by
        refine Nat.eq_of_testBit_eq fun i => ?_
        rw [Nat.testBit_xor]
        cases i with
        | zero =>
          have : n.testBit 0 = false := by rw [Nat.testBit_zero]; exact decide_eq_false o
          rw [this, Nat.testBit_zero, Nat.testBit_zero]; simp [Nat.pow_succ]
        | succ i => rw [Nat.testBit_succ, Nat.testBit_succ, Nat.testBit_succ, Nat.mul_div_cancel_left _ (by decide : 0 < 2), Nat.testBit_xor, Nat.pow_succ, Nat.mul_div_cancel _ (by decide : 0 < 2)]
      refine ⟨k + 1, by rw [tb]; exact h1, fun i hi => ?_, by rw [e1, e2, h3], ?_⟩
      · cases i with
        | zero => rw [Nat.testBit_zero]; exact decide_eq_false o
        | succ i => rw [tb]; exact h2 i (by omega)
      · unfold low at h4 ⊢
        rw [e1, Nat.pow_succ]
        have le : (n / 2) &&& (n / 2 - 1) ≤ n / 2 := Nat.and_le_left
        omega
section
variable {α : Type}
def nmf (f : α → Bool) : List α → Nat
  | [] => 0
  | p :: P => (if f p then 1 else 0) + 2 * nmf f P
theorem nmf_bit (f : α → Bool) : ∀ (P : List α) (i : Nat), (nmf f P).testBit i = ((P[i]?).map f).getD false
  | [], i => by simp [nmf]
  | p :: P, 0 => by
    rw [nmf, Nat.testBit_zero]
    have : ((if f p = true then 1 else 0) + 2 * nmf f P) % 2 = if f p = true then 1 else 0 := by split <;> omega
    rw [this]
    cases hf : f p <;> simp [hf]
  | p :: P, i + 1 => by
    rw [nmf, Nat.testBit_succ]
    have : ((if f p = true then 1 else 0) + 2 * nmf f P) / 2 = nmf f P := by split <;> omega
    rw [this, nmf_bit f P i]; simp
theorem nmf_lt (f : α → Bool) : ∀ P : List α, nmf f P < 2 ^ P.length
  | [] => by simp [nmf]
  | p :: P => by
    have := nmf_lt f P
    rw [nmf, List.length_cons, Nat.pow_succ]
    split <;> omega
theorem nmf_ext {f g : α → Bool} : ∀ {P : List α}, (∀ p ∈ P, f p = g p) → nmf f P = nmf g P
  | [], _ => rfl
  | p :: P, h => by rw [nmf, nmf, h p List.mem_cons_self, nmf_ext fun q hq => h q (List.mem_cons_of_mem _ hq)]
theorem nmf_inj {f g : α → Bool} : ∀ {P : List α}, nmf f P = nmf g P → ∀ p ∈ P, f p = g p
  | [], _, p, hp => nomatch hp
  | q :: P, h, p, hp => by
    rw [nmf, nmf] at h
    have e : nmf f P = nmf g P ∧ f q = g q := by
      have b1 : (if f q = true then 1 else 0) < 2 := by split <;> omega
      have b2 : (if g q = true then 1 else 0) < 2 := by split <;> omega
      have hd : nmf f P = nmf g P := by omega
      have hm : (if f q = true then 1 else 0) = if g q = true then 1 else 0 := by omega
      refine ⟨hd, ?_⟩
      cases hf : f q <;> cases hg : g q <;> simp [hf, hg] at hm ⊢
    rcases List.mem_cons.mp hp with rfl | hp
    · exact e.2
    · exact nmf_inj e.1 p hp
theorem nmf_xor (f g : α → Bool) (P : List α) : nmf f P ^^^ nmf g P = nmf (fun p => f p ^^ g p) P := by
  refine Nat.eq_of_testBit_eq fun i => ?_
  rw [Nat.testBit_xor, nmf_bit, nmf_bit, nmf_bit]
  cases P[i]? <;> simp
theorem nmf_and (f g : α → Bool) (P : List α) : nmf f P &&& nmf g P = nmf (fun p => f p && g p) P := by
  refine Nat.eq_of_testBit_eq fun i => ?_
  rw [Nat.testBit_and, nmf_bit, nmf_bit, nmf_bit]
  cases P[i]? <;> simp
theorem nmf_none {f : α → Bool} {P : List α} (h : ∀ p ∈ P, f p = false) : nmf f P = 0 := by
  rw [nmf_ext (g := fun _ => false) h]
  induction P with
  | nil => rfl
  | cons p P ih => rw [nmf, ih fun q hq => h q (List.mem_cons_of_mem _ hq)]; rfl
theorem par_nmf (f : α → Bool) : ∀ P : List α, par (nmf f P) = (P.countP f % 2 == 1)
  | [] => by rw [nmf, par_zero]; rfl
  | p :: P => by
    rw [nmf, par_step]
    have e1 : ((if f p = true then 1 else 0) + 2 * nmf f P) / 2 = nmf f P := by split <;> omega
    have e2 : (((if f p = true then 1 else 0) + 2 * nmf f P) % 2 == 1) = f p := by cases f p <;> simp <;> omega
    rw [e1, e2, par_nmf f P, List.countP_cons]
    have c : P.countP f % 2 = 0 ∨ P.countP f % 2 = 1 := by omega
    cases f p
    · simp
    · rcases c with c | c <;> simp [c] <;> omega
def ofN (n : Nat) (P : List α) : List α := (P.zipIdx.filter fun x => n.testBit x.2).map (·.1)
end
end CP
namespace CP
def comb : List Nat → Nat → Nat
  | [], _ => 0
  | r :: rows, u => (if u % 2 = 1 then r else 0) ^^^ comb rows (u / 2)
theorem comb_zero : ∀ rows : List Nat, comb rows 0 = 0
  | [] => rfl
  | r :: rows => by rw [comb, show 0 / 2 = 0 from rfl, comb_zero rows]; simp
theorem comb_xor : ∀ (rows : List Nat) (u v : Nat), comb rows (u ^^^ v) = comb rows u ^^^ comb rows v
  | [], _, _ => by simp [comb]
  | r :: rows, u, v => by
    rw [comb, comb, comb, Nat.xor_div_two, comb_xor rows]
    have h : (if (u ^^^ v) % 2 = 1 then r else 0) = (if u % 2 = 1 then r else 0) ^^^ (if v % 2 = 1 then r else 0) := by
      have o := @Nat.xor_mod_two_eq_one u v
      by_cases c1 : u % 2 = 1 <;> by_cases c2 : v % 2 = 1 <;> by_cases c3 : (u ^^^ v) % 2 = 1 <;> simp_all
    rw [h]
    simp only [Nat.xor_assoc]
    congr 1
    rw [← Nat.xor_assoc, Nat.xor_comm _ (comb rows (u / 2)), Nat.xor_assoc]
theorem comb_snoc : ∀ (rows : List Nat) (r u : Nat), comb (rows ++ [r]) u = comb rows u ^^^ (if u.testBit rows.length = true then r else 0)
  | [], r, u => by
    show comb [r] u = _
    rw [comb, comb, comb, List.length_nil, Nat.testBit_zero, Nat.xor_zero, Nat.zero_xor]
    by_cases c : u % 2 = 1 <;> simp [c]
  | x :: rows, r, u => by
    show comb (x :: (rows ++ [r])) u = _
    rw [comb, comb, comb_snoc rows r, Nat.xor_assoc, List.length_cons, Nat.testBit_succ]
theorem comb_pow : ∀ {rows : List Nat} {i r : Nat}, rows[i]? = some r → comb rows (2 ^ i) = r
  | [], i, r, h => by simp at h
  | x :: rows, 0, r, h => by
    simp at h; subst h
    rw [comb]; simp [comb_zero]
  | x :: rows, i + 1, r, h => by
    rw [comb, Nat.pow_succ, Nat.mul_mod_left, Nat.mul_div_cancel _ (by decide), comb_pow (by simpa using h)]
    simp
theorem dot_comb {rows : List Nat} {c : Nat} (h : ∀ r ∈ rows, dot r c = false) : ∀ u, dot (comb rows u) c = false := by
  induction rows with
  | nil => intro u; rw [comb, dot_zero]
  | cons r rows ih =>
    intro u
    rw [comb, dot_xor, ih (fun s hs => h s (List.mem_cons_of_mem _ hs))]
    split
    · rw [h r List.mem_cons_self]; rfl
    · rw [dot_zero]; rfl
theorem xor_left_cancel {a b c : Nat} (h : a ^^^ b = a ^^^ c) : b = c := by
  have : a ^^^ (a ^^^ b) = a ^^^ (a ^^^ c) := by rw [h]
  rwa [← Nat.xor_assoc, ← Nat.xor_assoc, Nat.xor_self, Nat.zero_xor, Nat.zero_xor] at this
theorem xor_eq_zero {a b : Nat} (h : a ^^^ b = 0) : a = b := xor_left_cancel (a := a) (by rw [Nat.xor_self, h]) |>.symm
theorem xor_xor (a b : Nat) : a ^^^ b ^^^ b = a := by rw [Nat.xor_assoc, Nat.xor_self, Nat.xor_zero]
abbrev Bs := List (Nat × Nat × Nat)
def red : Bs → Nat → Nat → Nat × Nat
  | [], n, r => (n, r)
  | x :: b, n, r => if n &&& x.1 ≠ 0 then red b (n ^^^ x.2.1) (r ^^^ x.2.2) else red b n r
def enl (b : Bs) (n r : Nat) : Bs := (low n, n, r) :: b.map fun x => if x.2.1 &&& low n ≠ 0 then (x.1, x.2.1 ^^^ n, x.2.2 ^^^ r) else x
def rws (b : Bs) : List Nat := b.map fun x => x.2.1
def usd (b : Bs) : List Nat := b.map fun x => x.2.2
structure Piv (b : Bs) : Prop where
  piv : ∀ x ∈ b, ∃ k, x.1 = 2 ^ k ∧ x.2.1.testBit k = true
  own : b.Pairwise fun x y => y.2.1 &&& x.1 = 0 ∧ x.2.1 &&& y.1 = 0
theorem Piv.tail {x : Nat × Nat × Nat} {b : Bs} (h : Piv (x :: b)) : Piv b := ⟨fun y hy => h.piv y (List.mem_cons_of_mem _ hy), (List.pairwise_cons.mp h.own).2⟩
theorem xor_and_zero {a b p : Nat} (h1 : a &&& p = 0) (h2 : b &&& p = 0) : (a ^^^ b) &&& p = 0 := by rw [Nat.and_xor_distrib_right, h1, h2]; rfl
theorem red_keep {p : Nat} : ∀ {b : Bs} (n r : Nat), (∀ x ∈ b, x.2.1 &&& p = 0) → n &&& p = 0 → (red b n r).1 &&& p = 0
  | [], n, r, _, h => h
  | x :: b, n, r, hb, h => by
    rw [red]
    have hb' : ∀ y ∈ b, y.2.1 &&& p = 0 := fun y hy => hb y (List.mem_cons_of_mem _ hy)
    split
    · exact red_keep _ _ hb' (xor_and_zero h (hb x List.mem_cons_self))
    · exact red_keep _ _ hb' h
theorem red_clear : ∀ {b : Bs} (n r : Nat), Piv b → ∀ x ∈ b, (red b n r).1 &&& x.1 = 0
  | [], _, _, _, x, hx => nomatch hx
  | y :: b, n, r, h, x, hx => by
    obtain ⟨h1, h2⟩ := List.pairwise_cons.mp h.own
    rw [red]
    rcases List.mem_cons.mp hx with rfl | hx
    · have hb : ∀ z ∈ b, z.2.1 &&& x.1 = 0 := fun z hz => (h1 z hz).1
      obtain ⟨k, e, hk⟩ := h.piv x List.mem_cons_self
      split
      · rename_i c
        refine red_keep _ _ hb ?_
        rw [e, and_pow] at c ⊢
        rw [Nat.testBit_xor, hk]
        cases d : n.testBit k with
        | false => rw [d] at c; simp at c
        | true => rfl
      · rename_i c
        exact red_keep _ _ hb (Decidable.not_not.mp c)
    · split
      · exact red_clear _ _ h.tail x hx
      · exact red_clear _ _ h.tail x hx
theorem red_comb : ∀ (b : Bs) (n r : Nat), ∃ u, u < 2 ^ b.length ∧ (red b n r).1 = n ^^^ comb (rws b) u ∧ (red b n r).2 = r ^^^ comb (usd b) u
  | [], n, r => ⟨0, by simp, by simp [red, comb, rws], by simp [red, comb, usd]⟩
  | x :: b, n, r => by
    rw [red]
    split
    · obtain ⟨u, h0, h1, h2⟩ := red_comb b (n ^^^ x.2.1) (r ^^^ x.2.2)
      have e1 : (2 * u + 1) % 2 = 1 := by omega
      have e2 : (2 * u + 1) / 2 = u := by omega
      refine ⟨2 * u + 1, by rw [List.length_cons, Nat.pow_succ]; omega, ?_, ?_⟩
      · rw [h1]
        show _ = n ^^^ comb (x.2.1 :: rws b) (2 * u + 1)
        rw [comb, e1, e2, if_pos rfl, Nat.xor_assoc]
      · rw [h2]
        show _ = r ^^^ comb (x.2.2 :: usd b) (2 * u + 1)
        rw [comb, e1, e2, if_pos rfl, Nat.xor_assoc]
    · obtain ⟨u, h0, h1, h2⟩ := red_comb b n r
      have e1 : ¬ (2 * u) % 2 = 1 := by omega
      have e2 : (2 * u) / 2 = u := by omega
      refine ⟨2 * u, by rw [List.length_cons, Nat.pow_succ]; omega, ?_, ?_⟩
      · rw [h1]
        show _ = n ^^^ comb (x.2.1 :: rws b) (2 * u)
        rw [comb, if_neg e1, e2, Nat.zero_xor]
      · rw [h2]
        show _ = r ^^^ comb (x.2.2 :: usd b) (2 * u)
        rw [comb, if_neg e1, e2, Nat.zero_xor]
structure BsOk (rows : List Nat) (b : Bs) : Prop extends Piv b where
  rcp : ∀ x ∈ b, x.2.1 = comb rows x.2.2 ∧ x.2.2 < 2 ^ rows.length
  spn : ∀ r ∈ rows, ∃ u, r = comb (rws b) u
theorem comb_comb {rows : List Nat} : ∀ {b : Bs}, (∀ x ∈ b, x.2.1 = comb rows x.2.2) → ∀ u, comb (rws b) u = comb rows (comb (usd b) u)
  | [], _, u => by show 0 = comb rows 0; rw [comb_zero]
  | x :: b, h, u => by
    show comb (x.2.1 :: rws b) u = comb rows (comb (x.2.2 :: usd b) u)
    rw [comb, comb, comb_xor, comb_comb (fun y hy => h y (List.mem_cons_of_mem _ hy))]
    congr 1
    split
    · exact h x List.mem_cons_self
    · rw [comb_zero]
theorem comb_lt {m : Nat} : ∀ {b : List Nat}, (∀ x ∈ b, x < 2 ^ m) → ∀ u, comb b u < 2 ^ m
  | [], _, u => Nat.two_pow_pos m
  | x :: b, h, u => by
    rw [comb]
    refine Nat.xor_lt_two_pow ?_ (comb_lt (fun y hy => h y (List.mem_cons_of_mem _ hy)) _)
    split
    · exact h x List.mem_cons_self
    · exact Nat.two_pow_pos m
theorem comb_more {rows : List Nat} {r u : Nat} (h : u < 2 ^ rows.length) : comb (rows ++ [r]) u = comb rows u := by
  rw [comb_snoc, Nat.testBit_lt_two_pow h]; simp
theorem bs_nil : BsOk [] [] := ⟨⟨(fun x hx => nomatch hx), List.Pairwise.nil⟩, (fun x hx => nomatch hx), (fun x hx => nomatch hx)⟩
theorem comb_of {rows b : List Nat} (h : ∀ r ∈ rows, ∃ u, r = comb b u) : ∀ u, ∃ v, comb rows u = comb b v := by
  induction rows with
  | nil => intro u; exact ⟨0, by rw [comb_zero]; rfl⟩
  | cons r rows ih =>
    intro u
    obtain ⟨v, hv⟩ := ih (fun s hs => h s (List.mem_cons_of_mem _ hs)) (u / 2)
    obtain ⟨w, hw⟩ := h r List.mem_cons_self
    rw [comb, hv]
    split
    · exact ⟨w ^^^ v, by rw [comb_xor, ← hw]⟩
    · exact ⟨v, by rw [Nat.zero_xor]⟩
theorem mem_comb {b : List Nat} {r : Nat} (h : r ∈ b) : ∃ u, r = comb b u := by
  obtain ⟨i, hi⟩ := List.getElem?_of_mem h
  exact ⟨2 ^ i, (comb_pow hi).symm⟩
theorem enl_span {b : Bs} {n r : Nat} : ∀ x ∈ rws b, ∃ u, x = comb (rws (enl b n r)) u := by
  intro y hy
  obtain ⟨x, hx, rfl⟩ := List.mem_map.mp hy
  have mn : n ∈ rws (enl b n r) := List.mem_map.mpr ⟨_, List.mem_cons_self, rfl⟩
  have mx : (if x.2.1 &&& low n ≠ 0 then (x.1, x.2.1 ^^^ n, x.2.2 ^^^ r) else x).2.1 ∈ rws (enl b n r) := List.mem_map.mpr ⟨_, List.mem_cons_of_mem _ (List.mem_map.mpr ⟨x, hx, rfl⟩), rfl⟩
  obtain ⟨u, hu⟩ := mem_comb mn
  obtain ⟨v, hv⟩ := mem_comb mx
  by_cases c : x.2.1 &&& low n ≠ 0
  · rw [if_pos c] at hv
    refine ⟨v ^^^ u, ?_⟩
    rw [comb_xor, ← hv, ← hu, xor_xor]
  · rw [if_neg c] at hv
    exact ⟨v, hv⟩
theorem enl_piv {b : Bs} (P : Piv b) {n r : Nat} (hn : n ≠ 0) (cl : ∀ x ∈ b, n &&& x.1 = 0) : Piv (enl b n r) := by
  obtain ⟨k, h1, _, _, h4⟩ := low_spec n (by omega)
  have other : ∀ x ∈ b, ∀ p, x.2.1 &&& p = 0 → n &&& p = 0 → (if x.2.1 &&& low n ≠ 0 then (x.1, x.2.1 ^^^ n, x.2.2 ^^^ r) else x).2.1 &&& p = 0 := fun x hx p e1 e2 => by
    split
    · exact xor_and_zero e1 e2
    · exact e1
  have one : ∀ x : Nat × Nat × Nat, (if x.2.1 &&& low n ≠ 0 then (x.1, x.2.1 ^^^ n, x.2.2 ^^^ r) else x).1 = x.1 := fun x => by split <;> rfl
  refine ⟨fun y hy => ?_, ?_⟩
  · rcases List.mem_cons.mp hy with rfl | hy
    · exact ⟨k, h4, h1⟩
    · obtain ⟨x, hx, rfl⟩ := List.mem_map.mp hy
      obtain ⟨j, e, hj⟩ := P.piv x hx
      refine ⟨j, by rw [one, e], ?_⟩
      have c := cl x hx
      split
      · rw [Nat.testBit_xor, hj]
        rw [e, and_pow] at c
        cases d : n.testBit j with
        | false => rfl
        | true => rw [d] at c; simp at c
      · exact hj
  · refine List.pairwise_cons.mpr ⟨fun y hy => ?_, ?_⟩
    · obtain ⟨x, hx, rfl⟩ := List.mem_map.mp hy
      refine ⟨?_, by rw [one]; exact cl x hx⟩
      show _ &&& low n = 0
      split
      · rename_i c
        rw [h4, and_pow] at c ⊢
        rw [Nat.testBit_xor, h1]
        cases d : x.2.1.testBit k with
        | false => rw [d] at c; simp at c
        | true => rfl
      · rename_i c; exact Decidable.not_not.mp c
    · refine List.pairwise_map.mpr (List.Pairwise.imp_of_mem (fun {x y} hx hy h => ?_) P.own)
      exact ⟨by rw [one]; exact other y hy _ h.1 (cl x hx), by rw [one]; exact other x hx _ h.2 (cl y hy)⟩
def addRow (rows : List Nat) (b : Bs) (c : Nat) : Bs := let q := red b c (2 ^ rows.length); if q.1 ≠ 0 then enl b q.1 q.2 else b
theorem addRow_ok {rows : List Nat} {b : Bs} (h : BsOk rows b) (c : Nat) : BsOk (rows ++ [c]) (addRow rows b c) := by
  unfold addRow
  obtain ⟨u, _, h1, h2⟩ := red_comb b c (2 ^ rows.length)
  have cl := red_clear c (2 ^ rows.length) h.toPiv
  have cc := comb_comb (rows := rows) (fun x hx => (h.rcp x hx).1) u
  have lt : comb (usd b) u < 2 ^ rows.length := comb_lt (fun y hy => by obtain ⟨x, hx, rfl⟩ := List.mem_map.mp hy; exact (h.rcp x hx).2) u
  dsimp only
  generalize hq : red b c (2 ^ rows.length) = q at h1 h2 cl ⊢
  have old : ∀ x ∈ b, x.2.1 = comb (rows ++ [c]) x.2.2 ∧ x.2.2 < 2 ^ (rows ++ [c]).length := fun x hx => by
    obtain ⟨e1, e2⟩ := h.rcp x hx
    refine ⟨by rw [comb_more e2]; exact e1, Nat.lt_of_lt_of_le e2 (Nat.pow_le_pow_right (by decide) (by simp))⟩
  have new : q.1 = comb (rows ++ [c]) q.2 ∧ q.2 < 2 ^ (rows ++ [c]).length := by
    refine ⟨?_, ?_⟩
    · rw [h1, h2, comb_xor, comb_pow (i := rows.length) (r := c) (by simp), comb_more lt, cc]
    · rw [h2]
      refine Nat.xor_lt_two_pow (Nat.pow_lt_pow_right (by decide) (by simp)) (Nat.lt_of_lt_of_le lt (Nat.pow_le_pow_right (by decide) (by simp)))
  by_cases hz : q.1 ≠ 0
  · rw [if_pos hz]
    refine ⟨enl_piv h.toPiv hz cl, fun y hy => ?_, fun r hr => ?_⟩
    · rcases List.mem_cons.mp hy with rfl | hy
      · exact new
      · obtain ⟨x, hx, rfl⟩ := List.mem_map.mp hy
        obtain ⟨e1, e2⟩ := old x hx
        split
        · refine ⟨?_, Nat.xor_lt_two_pow e2 new.2⟩
          show x.2.1 ^^^ q.1 = comb _ (x.2.2 ^^^ q.2)
          rw [comb_xor, ← e1, ← new.1]
        · exact ⟨e1, e2⟩
    · have sp := comb_of (enl_span (b := b) (n := q.1) (r := q.2))
      rcases List.mem_append.mp hr with hr | hr
      · obtain ⟨v, hv⟩ := h.spn r hr
        obtain ⟨w, hw⟩ := sp v
        exact ⟨w, hv.trans hw⟩
      · have : r = c := by simpa using hr
        subst this
        obtain ⟨w, hw⟩ := sp u
        obtain ⟨z, hz2⟩ := mem_comb (b := rws (enl b q.1 q.2)) (r := q.1) (List.mem_map.mpr ⟨_, List.mem_cons_self, rfl⟩)
        refine ⟨z ^^^ w, ?_⟩
        rw [comb_xor, ← hz2, ← hw, h1, xor_xor]
  · rw [if_neg hz]
    have hz := Decidable.not_not.mp hz
    refine ⟨h.toPiv, old, fun r hr => ?_⟩
    rcases List.mem_append.mp hr with hr | hr
    · exact h.spn r hr
    · have : r = c := by simpa using hr
      subst this
      exact ⟨u, xor_eq_zero (by rw [← h1]; exact hz)⟩
def bas : List Nat → List Nat → Bs → Bs
  | _, [], b => b
  | done, c :: cs, b => bas (done ++ [c]) cs (addRow done b c)
theorem bas_ok : ∀ (cs done : List Nat) (b : Bs), BsOk done b → BsOk (done ++ cs) (bas done cs b)
  | [], done, b, h => by rw [List.append_nil]; exact h
  | c :: cs, done, b, h => by
    have := bas_ok cs (done ++ [c]) _ (addRow_ok h c)
    rw [List.append_assoc] at this
    exact this
def basis (rows : List Nat) : Bs := bas [] rows []
theorem basis_ok (rows : List Nat) : BsOk rows (basis rows) := bas_ok rows [] [] bs_nil
def wit (b : Bs) (bit : Nat) : Nat := bit + ((b.filter fun x => decide (x.2.1 &&& bit ≠ 0)).map (·.1)).sum
theorem add_pow {n k : Nat} (h : n.testBit k = false) : n + 2 ^ k = n ^^^ 2 ^ k := by
  have e : n ^^^ 2 ^ k = n ||| 2 ^ k := by
    refine Nat.eq_of_testBit_eq fun i => ?_
    rw [Nat.testBit_xor, Nat.testBit_or, Nat.testBit_two_pow]
    by_cases c : k = i
    · subst c; simp [h]
    · simp [c]
  rw [e]
  have d : n &&& 2 ^ k = 0 := by rw [and_pow, h]; rfl
  have h1 : n % 2 ^ k < 2 ^ k := Nat.mod_lt _ (Nat.two_pow_pos k)
  have hs : ∀ (k n : Nat), n.testBit k = false → n + 2 ^ k = n ||| 2 ^ k := by
    intro k
    induction k with
    | zero =>
      intro n h
      rw [Nat.testBit_zero] at h
      have := of_decide_eq_false h
      refine Nat.eq_of_testBit_eq fun i => ?_
      rw [Nat.testBit_or]
      cases i with
      | zero => simp; omega
      | succ i => rw [Nat.testBit_succ, Nat.testBit_succ, show (n + 2 ^ 0) / 2 = n / 2 by simp; omega, Nat.testBit_two_pow]; simp
    | succ k ih =>
      intro n h
      rw [Nat.testBit_succ] at h
      refine Nat.eq_of_testBit_eq fun i => ?_
      have pk : 2 ^ (k + 1) = 2 * 2 ^ k := by rw [Nat.pow_succ]; omega
      rw [Nat.testBit_or]
      cases i with
      | zero => rw [pk]; simp
      | succ i => rw [Nat.testBit_succ, Nat.testBit_succ, Nat.testBit_succ, show (n + 2 ^ (k + 1)) / 2 = n / 2 + 2 ^ k by omega, ih _ h, Nat.testBit_or, pk, Nat.mul_div_cancel_left _ (by decide)]
  exact hs k n h
theorem sum_pow : ∀ (ks : List Nat) (n : Nat), ks.Nodup → (∀ k ∈ ks, n.testBit k = false) → ∀ i, (n + (ks.map (2 ^ ·)).sum).testBit i = (n.testBit i || decide (i ∈ ks))
  | [], n, _, _, i => by simp
  | k :: ks, n, nd, h, i => by
    obtain ⟨h1, h2⟩ := List.nodup_cons.mp nd
    have e := add_pow (h k List.mem_cons_self)
    have tb : ∀ j, (n + 2 ^ k).testBit j = (n.testBit j ^^ decide (k = j)) := fun j => by rw [e, Nat.testBit_xor, Nat.testBit_two_pow]
    rw [List.map_cons, List.sum_cons, ← Nat.add_assoc, sum_pow ks (n + 2 ^ k) h2 (fun j hj => by
      rw [tb, h j (List.mem_cons_of_mem _ hj)]
      have : k ≠ j := fun z => h1 (z ▸ hj)
      simp [this]) i, tb]
    by_cases c : k = i
    · subst c
      rw [h k List.mem_cons_self]; simp
    · have : ¬ i = k := fun z => c z.symm
      simp [c, this]
theorem and_pow_ne {n k : Nat} : (n &&& 2 ^ k ≠ 0) ↔ n.testBit k = true := by
  rw [and_pow]
  have := Nat.two_pow_pos k
  cases n.testBit k
  · simp
  · simp
theorem wit_spec {b : Bs} (P : Piv b) {k : Nat} (np : ∀ x ∈ b, x.1 ≠ 2 ^ k) :
    (∀ i, (wit b (2 ^ k)).testBit i = (decide (i = k) || b.any fun x => decide (x.1 = 2 ^ i) && x.2.1.testBit k)) ∧ (∀ r ∈ rws b, dot r (wit b (2 ^ k)) = false) ∧ ∀ n, n.testBit k = true → (∀ x ∈ b, n &&& x.1 = 0) → dot n (wit b (2 ^ k)) = true := by
  have inj : ∀ i j : Nat, 2 ^ i = 2 ^ j → i = j := fun i j h => (Nat.pow_right_inj (by decide)).mp h
  -- the pivots as numbers of bits
  have hk : ∃ ks : List Nat, (b.filter fun x => decide (x.2.1 &&& 2 ^ k ≠ 0)).map (·.1) = ks.map (2 ^ ·) ∧ ks.Nodup ∧ ∀ i, i ∈ ks ↔ ∃ x ∈ b, x.1 = 2 ^ i ∧ x.2.1.testBit k = true := by
    clear np
    induction b with
    | nil => exact ⟨[], rfl, .nil, fun i => by simp⟩
    | cons x b ih =>
      obtain ⟨ks, e, nd, m⟩ := ih P.tail
      obtain ⟨j, ej, hj⟩ := P.piv x List.mem_cons_self
      obtain ⟨h1, _⟩ := List.pairwise_cons.mp P.own
      rw [List.filter_cons]
      by_cases c : x.2.1 &&& 2 ^ k ≠ 0
      · rw [if_pos (decide_eq_true c)]
        refine ⟨j :: ks, by rw [List.map_cons, List.map_cons, e, ej], List.nodup_cons.mpr ⟨fun hm => ?_, nd⟩, fun i => ?_⟩
        · obtain ⟨y, hy, ey, _⟩ := (m j).mp hm
          have := (h1 y hy).2
          rw [ey] at this
          exact and_pow_ne.mpr hj this
        · rw [List.mem_cons, m i]
          constructor
          · rintro (rfl | ⟨y, hy, q⟩)
            · exact ⟨x, List.mem_cons_self, ej, and_pow_ne.mp c⟩
            · exact ⟨y, List.mem_cons_of_mem _ hy, q⟩
          · rintro ⟨y, hy, q1, q2⟩
            rcases List.mem_cons.mp hy with rfl | hy
            · exact .inl (inj _ _ (q1.symm.trans ej))
            · exact .inr ⟨y, hy, q1, q2⟩
      · rw [if_neg (by simpa using c)]
        refine ⟨ks, e, nd, fun i => ?_⟩
        rw [m i]
        constructor
        · rintro ⟨y, hy, q⟩; exact ⟨y, List.mem_cons_of_mem _ hy, q⟩
        · rintro ⟨y, hy, q1, q2⟩
          rcases List.mem_cons.mp hy with rfl | hy
          · exact absurd (and_pow_ne.mpr q2) c
          · exact ⟨y, hy, q1, q2⟩
  obtain ⟨ks, e, nd, m⟩ := hk
  have kn : k ∉ ks := fun h => by
    obtain ⟨x, hx, e1, _⟩ := (m k).mp h
    exact np x hx e1
  have bits : ∀ i, (wit b (2 ^ k)).testBit i = (decide (i = k) || decide (i ∈ ks)) := fun i => by
    unfold wit
    rw [e, sum_pow ks (2 ^ k) nd (fun j hj => by rw [Nat.testBit_two_pow]; exact decide_eq_false fun z => kn (z ▸ hj)), Nat.testBit_two_pow]
    congr 1
    exact decide_eq_decide.mpr ⟨Eq.symm, Eq.symm⟩
  -- what holds no bit of the pivots, or one
  have only : ∀ (n : Nat) (s : Nat → Bool), (∀ i, (decide (i = k) || decide (i ∈ ks)) = true → n.testBit i = s i) → n &&& wit b (2 ^ k) = nmf s (List.range (Nat.log2 (n ||| wit b (2 ^ k)) + 1)) &&& wit b (2 ^ k) := by
    intro n s h
    refine Nat.eq_of_testBit_eq fun i => ?_
    rw [Nat.testBit_and, Nat.testBit_and, nmf_bit, bits i]
    cases c : (decide (i = k) || decide (i ∈ ks)) with
    | false => rw [Bool.and_false, Bool.and_false]
    | true =>
      rw [Bool.and_true, Bool.and_true, h i c]
      by_cases l : i < Nat.log2 (n ||| wit b (2 ^ k)) + 1
      · rw [List.getElem?_range l]; rfl
      · exfalso
        have hb : (n ||| wit b (2 ^ k)).testBit i = true := by rw [Nat.testBit_or, bits i, c, Bool.or_true]
        rw [Nat.testBit_lt_two_pow (Nat.lt_of_lt_of_le Nat.lt_log2_self (Nat.pow_le_pow_right (by decide) (by omega)))] at hb
        cases hb
  refine ⟨fun i => ?_, fun r hr => ?_, fun n hn cl => ?_⟩
  · rw [bits i]
    congr 1
    by_cases c : i ∈ ks
    · rw [decide_eq_true c]
      obtain ⟨x, hx, q1, q2⟩ := (m i).mp c
      exact (List.any_eq_true.mpr ⟨x, hx, by rw [q2, Bool.and_true]; exact decide_eq_true q1⟩).symm
    · rw [decide_eq_false c]
      refine (List.any_eq_false.mpr fun x hx z => c ((m i).mpr ⟨x, hx, ?_⟩)).symm
      rw [Bool.and_eq_true_iff] at z
      exact ⟨of_decide_eq_true z.1, z.2⟩
  · obtain ⟨x, hx, rfl⟩ := List.mem_map.mp hr
    obtain ⟨j, ej, hj⟩ := P.piv x hx
    -- of all pivots only its own
    have other : ∀ y ∈ b, ∀ i, y.1 = 2 ^ i → i ≠ j → x.2.1.testBit i = false := fun y hy i ei ne => by
      have : x ≠ y := fun z => ne (inj _ _ (ei.symm.trans ((congrArg (·.1) z.symm).trans ej)))
      have pw : x.2.1 &&& y.1 = 0 := by
        have sym : ∀ {x y : Nat × Nat × Nat}, (y.2.1 &&& x.1 = 0 ∧ x.2.1 &&& y.1 = 0) → (x.2.1 &&& y.1 = 0 ∧ y.2.1 &&& x.1 = 0) := fun h => ⟨h.2, h.1⟩
        exact (List.Pairwise.forall_of_forall_of_flip (R := fun x y => x ≠ y → x.2.1 &&& y.1 = 0) (fun x _ h => absurd rfl h) (P.own.imp fun h _ => h.2) (P.own.imp fun h _ => h.1) hx hy) this
      rw [ei] at pw
      cases d : x.2.1.testBit i with
      | false => rfl
      | true => exact absurd pw (and_pow_ne.mpr d)
    unfold dot
    by_cases c : x.2.1.testBit k = true
    · have e2 : x.2.1 &&& wit b (2 ^ k) = 2 ^ k ^^^ 2 ^ j := by
        refine Nat.eq_of_testBit_eq fun i => ?_
        rw [Nat.testBit_and, bits i, Nat.testBit_xor, Nat.testBit_two_pow, Nat.testBit_two_pow]
        have jk : j ≠ k := fun z => np x hx (by rw [ej, z])
        by_cases c1 : i = k
        · subst c1
          rw [c]; simp [jk]
        · by_cases c2 : i = j
          · subst c2
            have : i ∈ ks := (m i).mpr ⟨x, hx, ej, c⟩
            rw [hj]; simp [this, Ne.symm c1]
          · have n1 : ¬ k = i := fun z => c1 z.symm
            have n2 : ¬ j = i := fun z => c2 z.symm
            by_cases c3 : i ∈ ks
            · obtain ⟨y, hy, q1, _⟩ := (m i).mp c3
              rw [other y hy i q1 c2]; simp [n1, n2]
            · simp [c1, c3, n1, n2]
      rw [e2, par_xor, par_pow, par_pow]; rfl
    · have c : x.2.1.testBit k = false := by cases d : x.2.1.testBit k with | false => rfl | true => exact absurd d c
      have e2 : x.2.1 &&& wit b (2 ^ k) = 0 := by
        refine Nat.eq_of_testBit_eq fun i => ?_
        rw [Nat.testBit_and, bits i, Nat.zero_testBit]
        by_cases c1 : i = k
        · subst c1; rw [c]; rfl
        · by_cases c3 : i ∈ ks
          · obtain ⟨y, hy, q1, q2⟩ := (m i).mp c3
            by_cases c2 : i = j
            · -- then y is x itself
              have : y = x := by
                refine Decidable.byContradiction fun z => ?_
                have pw : x.2.1 &&& y.1 = 0 := (List.Pairwise.forall_of_forall_of_flip (R := fun x y => x ≠ y → x.2.1 &&& y.1 = 0) (fun x _ h => absurd rfl h) (P.own.imp fun h _ => h.2) (P.own.imp fun h _ => h.1) hx hy) (Ne.symm z)
                rw [q1, c2] at pw
                exact and_pow_ne.mpr hj pw
              rw [this, c] at q2; cases q2
            · rw [other y hy i q1 c2]; rfl
          · simp [c1, c3]
      rw [e2, par_zero]
  · unfold dot
    have e2 : n &&& wit b (2 ^ k) = 2 ^ k := by
      refine Nat.eq_of_testBit_eq fun i => ?_
      rw [Nat.testBit_and, bits i, Nat.testBit_two_pow]
      by_cases c1 : i = k
      · subst c1; rw [hn]; simp
      · have n1 : ¬ k = i := fun z => c1 z.symm
        by_cases c3 : i ∈ ks
        · obtain ⟨y, hy, q1, _⟩ := (m i).mp c3
          have := cl y hy
          rw [q1] at this
          have : n.testBit i = false := by
            cases d : n.testBit i with
            | false => rfl
            | true => exact absurd this (and_pow_ne.mpr d)
          rw [this]; simp [n1]
        · simp [c1, c3, n1]
    rw [e2, par_pow]
end CP
namespace CP
def evenStep (fnd : List Nat) (row : Nat) : List Nat := fnd.filter (fun b => !dot b row) ++ ((fnd.filter fun b => dot b row).drop 1).map (· ^^^ (fnd.filter fun b => dot b row).headD 0)
def evens (rows : List Nat) (size : Nat) : List Nat := rows.foldl evenStep ((List.range size).map (2 ^ ·))
theorem evenStep_dot {fnd : List Nat} {row w : Nat} (h : w ∈ evenStep fnd row) : dot w row = false := by
  unfold evenStep at h
  rcases List.mem_append.mp h with h | h
  · have := (List.mem_filter.mp h).2
    simpa using this
  · obtain ⟨b, hb, rfl⟩ := List.mem_map.mp h
    have h1 := (List.mem_filter.mp (List.mem_of_mem_drop hb)).2
    cases q : fnd.filter fun b => dot b row with
    | nil => rw [q] at hb; simp at hb
    | cons o os =>
      have h2 : dot o row = true := ((List.mem_filter (p := fun b => dot b row)).mp (by rw [q]; exact List.mem_cons_self)).2
      rw [dot_xor, h1]
      show (true ^^ dot o row) = false
      rw [h2]; rfl
theorem evenStep_all {fnd : List Nat} {row : Nat} {p : Nat → Prop} (hx : ∀ a b, p a → p b → p (a ^^^ b)) (h : ∀ w ∈ fnd, p w) : ∀ w ∈ evenStep fnd row, p w := by
  intro w hw
  unfold evenStep at hw
  rcases List.mem_append.mp hw with hw | hw
  · exact h w (List.mem_filter.mp hw).1
  · obtain ⟨b, hb, rfl⟩ := List.mem_map.mp hw
    have h1 := (List.mem_filter.mp (List.mem_of_mem_drop hb)).1
    cases q : fnd.filter fun b => dot b row with
    | nil => rw [q] at hb; simp at hb
    | cons o os =>
      have h2 : o ∈ fnd := ((List.mem_filter (p := fun b => dot b row)).mp (by rw [q]; exact List.mem_cons_self)).1
      exact hx _ _ (h _ h1) (h _ h2)
theorem evens_all {p : Nat → Prop} (hx : ∀ a b, p a → p b → p (a ^^^ b)) : ∀ (rows : List Nat) (fnd : List Nat), (∀ w ∈ fnd, p w) → ∀ w ∈ rows.foldl evenStep fnd, p w
  | [], fnd, h => h
  | r :: rows, fnd, h => evens_all hx rows _ (evenStep_all hx h)
theorem evens_dot : ∀ (rows fnd : List Nat), ∀ w ∈ rows.foldl evenStep fnd, ∀ r ∈ rows, dot w r = false
  | [], fnd, w, hw, r, hr => nomatch hr
  | s :: rows, fnd, w, hw, r, hr => by
    rcases List.mem_cons.mp hr with rfl | hr
    · exact evens_all (p := fun w => dot w r = false) (fun a b h1 h2 => by rw [dot_xor, h1, h2]; rfl) rows _ (fun w hw => evenStep_dot hw) w hw
    · exact evens_dot rows _ w hw r hr
theorem evens_even {rows : List Nat} {size w : Nat} (h : w ∈ evens rows size) : (∀ r ∈ rows, dot w r = false) ∧ w < 2 ^ size := by
  refine ⟨evens_dot rows _ w h, ?_⟩
  refine evens_all (p := fun w => w < 2 ^ size) (fun a b h1 h2 => Nat.xor_lt_two_pow h1 h2) rows _ (fun w hw => ?_) w h
  obtain ⟨i, hi, rfl⟩ := List.mem_map.mp hw
  exact Nat.pow_lt_pow_right (by decide) (List.mem_range.mp hi)
end CP
namespace CP
open PySem PySem.Spec PyProof.Rows L2
abbrev Ed2 := Str × Str
abbrev Pr2 := Ed2 × Ed2
abbrev Ca2 := Ed2 × Str
def encE : Enc Ed2 := encP encS encS (fun a => by show PyData.depth (PV.toD (.str a)) ≤ 5; simp [PV.toD, PyData.depth]) (fun a => by show PyData.depth (PV.toD (.str a)) ≤ 5; simp [PV.toD, PyData.depth]) (fun a => by show NestedKey.depth (PV.nk (.str a)) ≤ 3; simp [PV.nk, NestedKey.depth]) (fun a => by show NestedKey.depth (PV.nk (.str a)) ≤ 3; simp [PV.nk, NestedKey.depth])
theorem encE_d (e : Ed2) : (PV.toD (encE.f e)).depth ≤ 5 := by
  show PyData.depth (PV.toD (.tup [.str e.1, .str e.2])) ≤ 5
  simp [PV.toD, PV.toDs, PyData.depth, PyData.depthAll]
theorem encE_k (e : Ed2) : (PV.nk (encE.f e)).depth ≤ 1 := by
  show NestedKey.depth (PV.nk (.tup [.str e.1, .str e.2])) ≤ 1
  simp [PV.nk, PV.nks, NestedKey.depth, NestedKey.depthAll]
def encPr : Enc Pr2 := encP encE encE encE_d encE_d (fun a => Nat.le_trans (encE_k a) (by decide)) (fun a => Nat.le_trans (encE_k a) (by decide))
def pE (e : Ed2) : PV := .tup [.str e.1, .str e.2]
def pP (p : Pr2) : PV := .tup [pE p.1, pE p.2]
def pC (c : Ca2) : PV := .tup [pE c.1, .str c.2]
def pG (C : Addr) (ns : List Str) (es : List Ed2) : PV := .ins C ["vertices", "edges"] [.tup (ns.map .str), .tup (es.map pE)]
def nameB (x : Str) : Bool := decide (1 ≤ x.cps.size ∧ x.cps.size ≤ 8) && x.cps.toList.all fun c => decide (c ∈ v_LETTERS.cps.toList)
structure EdOk2 (ns : List Str) (e : Ed2) : Prop where
  l : e.1 ∈ ns
  r : e.2 ∈ ns
  lt : strLt e.1 e.2 = true
structure VsOk (ns : List Str) : Prop where
  nd : ns.Nodup
  n1 : 1 ≤ ns.length
  n8 : ns.length ≤ 8
  nm : ∀ x ∈ ns, nameB x = true
structure GrIn (ns : List Str) (es : List Ed2) : Prop extends VsOk ns where
  end_ : es.Nodup
  e18 : es.length ≤ 18
  ed : ∀ e ∈ es, EdOk2 ns e
structure GrOk (ns : List Str) (es : List Ed2) : Prop extends GrIn ns es where
  asc : encE.asc es
def isRow (p : PV) (xs : List PV) : Prop := p = .lst xs ∨ p = .tup xs
def apart (e f : Ed2) : Bool := decide (e.1 ≠ f.1 ∧ e.1 ≠ f.2 ∧ e.2 ≠ f.1 ∧ e.2 ≠ f.2)
def prs : List Ed2 → List Pr2
  | [] => []
  | e :: es => ((es.filter (apart e)).map fun f => (e, f)) ++ prs es
def flips (es : List Ed2) (c : Ca2) : List Pr2 := (es.filter fun o => decide (c.2 = o.1 ∨ c.2 = o.2) && apart c.1 o).map fun o => if encE.lt o c.1 = true then (o, c.1) else (c.1, o)
def everyC (ns : List Str) (es : List Ed2) : List Ca2 := es.flatMap fun e => ((encS.srtd ns).filter fun v => decide (v ≠ e.1 ∧ v ≠ e.2)).map fun v => (e, v)
structure CaOk (ns : List Str) (es : List Ed2) (c : Ca2) : Prop where
  e : c.1 ∈ es
  v : c.2 ∈ ns
  n1 : c.2 ≠ c.1.1
  n2 : c.2 ≠ c.1.2
structure RecOk (es : List Ed2) (r : List Pr2) : Prop where
  nd : r.Nodup
  sub : ∀ p ∈ r, p ∈ prs es
def plc (os : List Str) (v : Str) : Nat := os.idxOf v
def altB (os : List Str) (p : Pr2) : Bool := (fun l h => decide ((l < plc os p.2.1 ∧ plc os p.2.1 < h) ≠ (l < plc os p.2.2 ∧ plc os p.2.2 < h))) (min (plc os p.1.1) (plc os p.1.2)) (max (plc os p.1.1) (plc os p.1.2))
def cvx (es : List Ed2) (os : List Str) : List Pr2 := (prs es).filter (altB os)
def g_is_row (C : Addr) : PG1 := fun ss Q => ∃ p, tyOk p ∧ ss = [.val p] ∧ Q (.sh (.bl (tyN p == "list" || tyN p == "tuple"))) ss
def g_is_couple (C : Addr) : PG1 := fun ss Q => ∃ a b, ss = [.val (.tup [a, b])] ∧ Q (.sh (.bl true)) ss
def g_is_name (C : Addr) : PG1 := fun ss Q => ∃ x, nameB x = true ∧ ss = [.val (.str x)] ∧ Q (.sh (.bl true)) ss
def g_are_vertices (C : Addr) : PG1 := fun ss Q => ∃ v ns, VsOk ns ∧ isRow v (ns.map .str) ∧ ss = [.val v] ∧ Q (.sh (.bl true)) ss
def g_are_edges (C : Addr) : PG1 := fun ss Q => ∃ v w ns es, GrIn ns es ∧ isRow v (ns.map .str) ∧ isRow w (es.map pE) ∧ ss = [.val v, .val w] ∧ Q (.sh (.bl true)) ss
def isLst (p : PV) (xs : List PV) : Prop := p = .lst xs ∨ False
def g_Graph (C : Addr) : PG1 := fun ss Q => ∃ v w ns es, GrIn ns es ∧ isLst v (ns.map .str) ∧ isRow w (es.map pE) ∧ ss = [.io (.ins C [] []), .val v, .val w] ∧ Q (.sh .non) [.io (pG C ns (encE.srtd es)), .val v, .val w]
def g_is_among (C : Addr) : PG1 := fun ss Q => ∃ v ns x, (encS.oks ns = true ∧ encS.ok x = true) ∧ isRow v (ns.map .str) ∧ ss = [.val v, .val (.str x)] ∧ Q (.sh (.bl (decide (x ∈ ns)))) ss
def g_joins (C : Addr) : PG1 := fun ss Q => ∃ v ns e, (encS.oks ns = true ∧ encE.ok e = true) ∧ isRow v (ns.map .str) ∧ ss = [.val v, .val (pE e)] ∧ Q (.sh (.bl (decide (e.1 ∈ ns ∧ e.2 ∈ ns) && strLt e.1 e.2))) ss
def g_is_edge (C : Addr) : PG1 := fun ss Q => ∃ ns es e, GrOk ns es ∧ encE.ok e = true ∧ ss = [.val (pG C ns es), .val (pE e)] ∧ Q (.sh (.bl (decide (e ∈ es)))) ss
def cpar (r w : List Pr2) : Nat := (r.filter fun p => decide (p ∈ w)).length % 2
def isWit (ns : List Str) (es : List Ed2) (r : List Pr2) : Bool := (everyC ns es).all fun c => decide (cpar r (flips es c) = 0)
def num (es : List Ed2) (r : List Pr2) : Nat := nmf (fun p => decide (p ∈ r)) (prs es)
def rowsOf (ns : List Str) (es : List Ed2) : List Nat := (everyC ns es).map fun c => num es (flips es c)
def basOf (ns : List Str) (es : List Ed2) : Bs := basis (rowsOf ns es)
def lead (ns : List Str) (es : List Ed2) (n : Nat) : Str × List PV := let q := red (basOf ns es) n 0
  if q.1 = 0 then ("carries", (ofN q.2 (everyC ns es)).map pC) else ("witness", (ofN (wit (basOf ns es) (low q.1)) (prs es)).map pP)
end CP
namespace CP
open PySem PySem.Spec PyProof.Rows L2
def q_is_row (C : Addr) : QS := (sRet (qCB gIsa (bCons (qVar 0) (bCons (qTup (aCons (qC (.ty "list")) (aCons (qC (.ty "tuple")) aNil))) bNil))))
def q_is_couple (C : Addr) : QS := (sRet (qAndV (qCB gIsa (bCons (qVar 0) (bCons (qC (.ty "tuple")) bNil))) (qCmp gEq (qCB gLenU (bCons (qVar 0) bNil)) (qC (.int (2))))))
def q_is_name (C : Addr) : QS := (sSeq (sIf (qOr (qNot (qTb (qCB gIsa (bCons (qVar 0) (bCons (qC (.ty "str")) bNil))))) (qOr (qTst gEq (qCB gLenU (bCons (qVar 0) bNil)) (qC (.int (0)))) (qTst gGt (qCB gLenU (bCons (qVar 0) bNil)) (qC (.int (8)))))) (sRet (qC (.bl false))) sNil)
  (sRet (qCB (gAllB fun ns => ns.all _root_.id) (bCons (qLc (iqAny (qVar 0)) (gqName 1) qYes (qCmp gInQ (qVar 1) (qC (.str v_LETTERS))) [1]) bNil))))
def q_are_vertices (C : Addr) : QS := (sSeq (sIf (qOr (qNot (qTb (qCallK (g_is_row C) (aCons (qVar 0) aNil)))) (qOr (qTst gEq (qCB gLenU (bCons (qVar 0) bNil)) (qC (.int (0)))) (qTst gGt (qCB gLenU (bCons (qVar 0) bNil)) (qC (.int (8)))))) (sRet (qC (.bl false))) sNil)
  (sRet (qAndV (qCB (gAllB fun ns => ns.all _root_.id) (bCons (qLc (iqAny (qVar 0)) (gqName 1) qYes (qCallK (g_is_name C) (aCons (qVar 1) aNil)) [1]) bNil)) (qCmp gEq (qLenSet (qVar 0)) (qCB gLenU (bCons (qVar 0) bNil))))))
def q_are_edges (C : Addr) : QS := (sSeq (sIf (qOr (qNot (qTb (qCallK (g_is_row C) (aCons (qVar 1) aNil)))) (qTst gGt (qCB gLenU (bCons (qVar 1) bNil)) (qC (.int (18))))) (sRet (qC (.bl false))) sNil)
  (sRet (qAndV (qCB (gAllB fun ns => ns.all _root_.id) (bCons (qLc (iqAny (qVar 1)) (gqName 2) qYes (qCallK (g_joins C) (aCons (qVar 0) (aCons (qVar 2) aNil))) [2]) bNil)) (qCmp gEq (qLenSet (qVar 1)) (qCB gLenU (bCons (qVar 1) bNil))))))
def q_is_among (C : Addr) : QS := (sRet (qAndV (qCB gIsa (bCons (qVar 1) (bCons (qC (.ty "str")) bNil))) (qCmp gInQ (qVar 1) (qVar 0))))
def q_joins (C : Addr) : QS := (sSeq (sIf (qNot (qTb (qCallK (g_is_couple C) (aCons (qVar 1) aNil)))) (sRet (qC (.bl false))) sNil)
  (sSeq (sAsg (qVar 1) (gqTup 2 (gqCons (gqName 2) (gqCons (gqName 3) gqNil))))
  (sRet (qAndV (qCallK (g_is_among C) (aCons (qVar 0) (aCons (qVar 2) aNil))) (qAndV (qCallK (g_is_among C) (aCons (qVar 0) (aCons (qVar 3) aNil))) (qCmp gLt (qVar 2) (qVar 3)))))))
def q_Graph (C : Addr) : QS := (sSeq (sIf (qNot (qTb (qCallK (g_are_vertices C) (aCons (qVar 1) aNil)))) sNever sNil)
  (sSeq (sIf (qNot (qTb (qCallK (g_are_edges C) (aCons (qVar 1) (aCons (qVar 2) aNil))))) sNever sNil)
  (sSeq (sFldT C 0 "vertices" (qVar 1))
  (sFldS C 0 "edges" (qCB gTuple (bCons (qCB gSortedU (bCons (qVar 2) bNil)) bNil))))))
def q_is_edge (C : Addr) : QS := (sRet (qAndV (qCallK (g_joins C) (aCons (qUn (gFld C "vertices") (qVar 0)) (aCons (qVar 1) aNil))) (qCmp gInQ (qVar 1) (qUn (gFld C "edges") (qVar 0)))))
end CP
namespace CP
open PySem PySem.Spec PyProof.Rows L2
section
variable {α : Type}
theorem runC_of {g : QG} {t : QT} {q : QE} {vs : List Nat} {k : List PV → PEnv → Prop} {e : PEnv} (enc : α → PV) (sel : α → Bool) (out : α → PV) : ∀ (xs : List α) (acc : List PV),
    (∀ x ∈ xs, ∀ (R : PV → PEnv → Prop) (R0 : PEnv → Prop), (sel x = true → R (out x) e) → (sel x = false → R0 e) → g (enc x) e fun e1 => t e1 fun b e2 => if b = true then q e2 fun r e3 => keep r e3 fun y e4 => R y (wipeE e4 vs) else R0 (wipeE e2 vs)) →
    k (acc ++ (xs.filter sel).map out) e → runC g t q vs (xs.map enc) acc e k
  | [], acc, _, h => by show k acc e; simpa using h
  | x :: xs, acc, st, h => by
    refine st x List.mem_cons_self (fun y e' => runC g t q vs (xs.map enc) (acc ++ [y]) e' k) (fun e' => runC g t q vs (xs.map enc) acc e' k) (fun s => ?_) fun s => ?_
    · refine runC_of enc sel out xs _ (fun y hy => st y (List.mem_cons_of_mem _ hy)) ?_
      rw [List.filter_cons, if_pos s, List.map_cons] at h
      rw [List.append_assoc]; exact h
    · refine runC_of enc sel out xs _ (fun y hy => st y (List.mem_cons_of_mem _ hy)) ?_
      rw [List.filter_cons, if_neg (by rw [s]; decide)] at h
      exact h
theorem runC_all {g : QG} {t : QT} {q : QE} {vs : List Nat} {k : List PV → PEnv → Prop} {e : PEnv} (enc : α → PV) (out : α → PV) (xs : List α)
    (st : ∀ x ∈ xs, ∀ (R : PV → PEnv → Prop) (R0 : PEnv → Prop), R (out x) e → g (enc x) e fun e1 => t e1 fun b e2 => if b = true then q e2 fun r e3 => keep r e3 fun y e4 => R y (wipeE e4 vs) else R0 (wipeE e2 vs))
    (h : k (xs.map out) e) : runC g t q vs (xs.map enc) [] e k :=
  runC_of enc (fun _ => true) out xs [] (fun x hx R R0 h1 _ => st x hx R R0 (h1 rfl)) (by rw [List.nil_append, List.filter_eq_self.mpr fun _ _ => rfl]; exact h)
theorem runC_sel {g : QG} {t : QT} {q : QE} {vs : List Nat} {k : List PV → PEnv → Prop} {e : PEnv} (enc : α → PV) (sel : α → Bool) (out : α → PV) (xs : List α)
    (st : ∀ x ∈ xs, ∀ (R : PV → PEnv → Prop) (R0 : PEnv → Prop), (sel x = true → R (out x) e) → (sel x = false → R0 e) → g (enc x) e fun e1 => t e1 fun b e2 => if b = true then q e2 fun r e3 => keep r e3 fun y e4 => R y (wipeE e4 vs) else R0 (wipeE e2 vs))
    (h : k ((xs.filter sel).map out) e) : runC g t q vs (xs.map enc) [] e k := runC_of enc sel out xs [] st (by rw [List.nil_append]; exact h)
theorem runC_rec {g : QG} {t : QT} {q : QE} {vs : List Nat} {k : List PV → PEnv → Prop} (enc : α → PV) (I : List α → List PV → PEnv → Prop) : ∀ (xs : List α) (acc : List PV) (e : PEnv), I xs acc e →
    (∀ x xs acc e (R : PV → PEnv → Prop) (R0 : PEnv → Prop), I (x :: xs) acc e → (∀ y e', I xs (acc ++ [y]) e' → R y e') → (∀ e', I xs acc e' → R0 e') → g (enc x) e fun e1 => t e1 fun b e2 => if b = true then q e2 fun r e3 => keep r e3 fun y e4 => R y (wipeE e4 vs) else R0 (wipeE e2 vs)) →
    (∀ acc e, I [] acc e → k acc e) → runC g t q vs (xs.map enc) acc e k
  | [], acc, e, i, _, h => h acc e i
  | x :: xs, acc, e, i, st, h => st x xs acc e (fun y e' => runC g t q vs (xs.map enc) (acc ++ [y]) e' k) (fun e' => runC g t q vs (xs.map enc) acc e' k) i (fun y e' i' => runC_rec enc I xs _ e' i' st h) fun e' i' => runC_rec enc I xs _ e' i' st h
theorem blsOf_mapf (f : α → Bool) (xs : List α) : blsOf (xs.map fun x => PV.bl (f x)) = some (xs.map f) := by
  have := blsOf_map (xs.map f)
  rw [List.map_map] at this; exact this
theorem intsOf_mapf (f : α → Int) (xs : List α) : intsOf (xs.map fun x => PV.int (f x)) = some (xs.map f) := by
  have := intsOf_map (xs.map f)
  rw [List.map_map] at this; exact this
end
theorem free_go {e : PEnv} {i : Nat} {k : Prop} (h : slF e[i]? = true) (q : k) : freeS e i k := by unfold freeS; rw [h]; exact q
theorem runF_rec {α : Type} {g : QG} {b : QS} {E : PEnds} (enc : α → PV) (I : List α → PEnv → Prop) : ∀ (xs : List α) (e : PEnv), I xs e →
    (∀ x xs e (R : PEnv → Prop), I (x :: xs) e → (∀ e', I xs e' → R e') → g (enc x) e fun e1 => b { E with nx := R, ct := R, bk := E.nx } e1) → (∀ e', I [] e' → E.nx e') → runF g b E (xs.map enc) e
  | [], e, i, _, h => h e i
  | x :: xs, e, i, st, h => st x xs e (runF g b E (xs.map enc)) i fun e' i' => runF_rec enc I xs e' i' st h
theorem numbered_map {α : Type} (f : α → PV) (xs : List α) : numbered (xs.map f) = xs.zipIdx.map fun x => .tup [.int (x.2 : Nat), f x.1] := by
  refine List.ext_getElem? fun i => ?_
  rw [numbered_get]
  simp only [List.getElem?_map, List.getElem?_zipIdx, Nat.zero_add]
  cases xs[i]? <;> rfl
theorem cut_drop {α : Type} (f : α → PV) (xs : List α) (n : Nat) (h : n ≤ xs.length) : cutP (xs.map f) (some (n : Int)) none = (xs.drop n).map f := by
  unfold cutP
  have e1 : HT.sIx (xs.map f).length 0 (some (n : Int)) = n := by
    rw [HT.sIx_nat, List.length_map]; omega
  have e2 : HT.sIx (xs.map f).length (xs.map f).length none = (xs.map f).length := by unfold HT.sIx; rfl
  rw [e1, e2, ← List.map_drop, List.take_of_length_le (by simp)]
theorem cut_take {α : Type} (f : α → PV) (xs : List α) (n : Nat) : cutP (xs.map f) none (some (n : Int)) = (xs.take n).map f := by
  unfold cutP
  have e1 : HT.sIx (xs.map f).length 0 none = 0 := by unfold HT.sIx; rfl
  have e2 : HT.sIx (xs.map f).length (xs.map f).length (some (n : Int)) = min n xs.length := by
    rw [HT.sIx_nat, List.length_map]
  rw [e1, e2, List.drop_zero, Nat.sub_zero, ← List.map_take]
  congr 1
  rw [List.take_eq_take_iff]; omega
theorem hasS (xs : List Str) (x : Str) : hasP (xs.map .str) (.str x) = decide (x ∈ xs) := (encS.has xs x).trans (decide_eq_decide.mpr Iff.rfl)
theorem hasE (xs : List Ed2) (x : Ed2) : hasP (xs.map pE) (pE x) = decide (x ∈ xs) := (encE.has xs x).trans (decide_eq_decide.mpr Iff.rfl)
theorem shpS {x : Str} (h : encS.ok x = true) : Shp (.str x) := encS.shp h
theorem shpSs {xs : List Str} (h : encS.oks xs = true) : Shp (.tup (xs.map .str)) := encS.shpT h
theorem shpSl {xs : List Str} (h : encS.oks xs = true) : Shp (.lst (xs.map .str)) := encS.shpL h
theorem okE {e : Ed2} (h : encE.ok e = true) : encS.ok e.1 = true ∧ encS.ok e.2 = true := Bool.and_eq_true_iff.mp h
theorem okP {p : Pr2} (h : encPr.ok p = true) : encE.ok p.1 = true ∧ encE.ok p.2 = true := Bool.and_eq_true_iff.mp h
theorem shpE {e : Ed2} (h : encE.ok e = true) : Shp (pE e) := encE.shp h
theorem shpEs {xs : List Ed2} (h : encE.oks xs = true) : Shp (.tup (xs.map pE)) := encE.shpT h
theorem isa_str (x : Str) : isaB (tyN (.str x)) "str" = true := by show isaB "str" "str" = true; decide +kernel
theorem isa_tup (xs : List PV) : isaB (tyN (.tup xs)) "tuple" = true := by show isaB "tuple" "tuple" = true; decide +kernel
theorem lettersOk : ∀ c ∈ v_LETTERS.cps.toList, c < 0x110000 := by decide +kernel
theorem name_ok {x : Str} (h : nameB x = true) : encS.ok x = true := by
  unfold nameB at h
  rw [Bool.and_eq_true_iff] at h
  show PyData.strOk x = true
  unfold PyData.strOk
  rw [← Array.all_toList]
  refine List.all_eq_true.mpr fun c hc => decide_eq_true ?_
  exact lettersOk c (of_decide_eq_true (List.all_eq_true.mp h.2 c hc))
theorem name_len {x : Str} (h : nameB x = true) : 1 ≤ x.length ∧ x.length ≤ 8 := by
  unfold nameB at h
  rw [Bool.and_eq_true_iff] at h
  exact of_decide_eq_true h.1
section
variable {ns : List Str} {es : List Ed2}
theorem VsOk.oks (h : VsOk ns) : encS.oks ns = true := List.all_eq_true.mpr fun x hx => name_ok (h.nm x hx)
theorem VsOk.ok (h : VsOk ns) {x : Str} (hx : x ∈ ns) : encS.ok x = true := name_ok (h.nm x hx)
theorem GrIn.okE (h : GrIn ns es) {e : Ed2} (he : e ∈ es) : encE.ok e = true := Bool.and_eq_true_iff.mpr ⟨h.toVsOk.ok (h.ed e he).l, h.toVsOk.ok (h.ed e he).r⟩
theorem GrIn.oks (h : GrIn ns es) : encE.oks es = true := List.all_eq_true.mpr fun e he => h.okE he
theorem mem_prs : ∀ {es : List Ed2} {p : Pr2}, p ∈ prs es → p.1 ∈ es ∧ p.2 ∈ es ∧ apart p.1 p.2 = true
  | [], p, h => by cases h
  | e :: es, p, h => by
    rcases List.mem_append.mp h with h | h
    · obtain ⟨f, hf, rfl⟩ := List.mem_map.mp h
      obtain ⟨h1, h2⟩ := List.mem_filter.mp hf
      exact ⟨List.mem_cons_self, List.mem_cons_of_mem _ h1, h2⟩
    · obtain ⟨h1, h2, h3⟩ := mem_prs h
      exact ⟨List.mem_cons_of_mem _ h1, List.mem_cons_of_mem _ h2, h3⟩
theorem GrIn.okP (h : GrIn ns es) {p : Pr2} (hp : p ∈ prs es) : encPr.ok p = true := let ⟨h1, h2, _⟩ := mem_prs hp; Bool.and_eq_true_iff.mpr ⟨h.okE h1, h.okE h2⟩
theorem prs_len : ∀ es : List Ed2, (prs es).length * 2 + es.length ≤ es.length * es.length
  | [] => by simp [prs]
  | e :: es => by
    have h1 := prs_len es
    have h2 := List.length_filter_le (apart e) es
    simp only [prs, List.length_append, List.length_map, List.length_cons]
    have : (es.length + 1) * (es.length + 1) = es.length * es.length + es.length + es.length + 1 := by rw [Nat.add_mul, Nat.mul_add]; omega
    omega
theorem GrIn.prs_few (h : GrIn ns es) : (prs es).length ≤ 153 := by
  have h1 := prs_len es
  have h2 := h.e18
  have h3 : es.length * es.length + 18 * es.length ≤ 18 * 18 + es.length * es.length := by omega
  have h4 : es.length * es.length ≤ 18 * es.length := Nat.mul_le_mul_right _ h2
  omega
theorem nodup_le {α : Type} [DecidableEq α] : ∀ {r P : List α}, r.Nodup → (∀ p ∈ r, p ∈ P) → r.length ≤ P.length
  | [], _, _, _ => Nat.zero_le _
  | x :: r, P, nd, h => by
    obtain ⟨h1, h2⟩ := List.nodup_cons.mp nd
    have hx := h x List.mem_cons_self
    have := nodup_le (P := P.erase x) h2 fun p hp => (List.mem_erase_of_ne fun z : p = x => h1 (z ▸ hp)).mpr (h p (List.mem_cons_of_mem _ hp))
    rw [List.length_erase_of_mem hx] at this
    have := List.length_pos_of_mem hx
    rw [List.length_cons]; omega
theorem RecOk.few {r : List Pr2} (hr : RecOk es r) (h : GrIn ns es) : r.length ≤ 153 := Nat.le_trans (nodup_le hr.nd hr.sub) h.prs_few
theorem lt_ne {e f : Ed2} (h : encE.lt e f = true) : e ≠ f := fun z => by rw [z, encE.irr] at h; cases h
theorem prs_iff : ∀ {es : List Ed2}, encE.asc es → ∀ {p : Pr2}, p ∈ prs es ↔ p.1 ∈ es ∧ p.2 ∈ es ∧ encE.lt p.1 p.2 = true ∧ apart p.1 p.2 = true
  | [], _, p => by simp [prs]
  | e :: es, h, p => by
    obtain ⟨h1, h2⟩ := List.pairwise_cons.mp h
    have ih := prs_iff (es := es) h2 (p := p)
    constructor
    · intro hp
      rcases List.mem_append.mp hp with hp | hp
      · obtain ⟨f, hf, rfl⟩ := List.mem_map.mp hp
        obtain ⟨a, b⟩ := List.mem_filter.mp hf
        exact ⟨List.mem_cons_self, List.mem_cons_of_mem _ a, h1 f a, b⟩
      · obtain ⟨a, b, c, d⟩ := ih.mp hp
        exact ⟨List.mem_cons_of_mem _ a, List.mem_cons_of_mem _ b, c, d⟩
    · rintro ⟨a, b, c, d⟩
      rcases List.mem_cons.mp a with a | a
      · rcases List.mem_cons.mp b with b | b
        · rw [a, b, encE.irr] at c; cases c
        · refine List.mem_append.mpr (.inl (List.mem_map.mpr ⟨p.2, List.mem_filter.mpr ⟨b, by rw [← a]; exact d⟩, ?_⟩))
          rw [← a]
      · rcases List.mem_cons.mp b with b | b
        · have := h1 p.1 a
          rw [b, encE.asymm this] at c; cases c
        · exact List.mem_append.mpr (.inr (ih.mpr ⟨a, b, c, d⟩))
theorem prs_asc : ∀ {es : List Ed2}, encE.asc es → encPr.asc (prs es)
  | [], _ => List.Pairwise.nil
  | e :: es, h => by
    obtain ⟨h1, h2⟩ := List.pairwise_cons.mp h
    refine List.pairwise_append.mpr ⟨?_, prs_asc h2, fun a ha b hb => ?_⟩
    · refine List.pairwise_map.mpr ((List.Pairwise.filter _ h2).imp fun {x y} hxy => ?_)
      show lexLt encE encE (e, x) (e, y) = true
      unfold lexLt
      rw [if_pos rfl]; exact hxy
    · obtain ⟨f, hf, rfl⟩ := List.mem_map.mp ha
      have := (mem_prs hb).1
      show lexLt encE encE (e, f) b = true
      unfold lexLt
      have lt := h1 b.1 this
      rw [if_neg (fun z : e = b.1 => lt_ne lt z)]; exact lt
theorem prs_nd {es : List Ed2} (h : encE.asc es) : (prs es).Nodup := encPr.asc_nd (prs_asc h)
end
theorem dec_yes {p : Prop} {i : Decidable p} (h : p) {A : ¬ p → Prop} {B : p → Prop} (q : B h) : @Decidable.rec p (fun _ => Prop) A B i := by
  cases i with
  | isTrue h2 => exact q
  | isFalse h2 => exact absurd h h2
theorem dec_no {p : Prop} {i : Decidable p} (h : ¬ p) {A : ¬ p → Prop} {B : p → Prop} (q : A h) : @Decidable.rec p (fun _ => Prop) A B i := by
  cases i with
  | isTrue h2 => exact absurd h2 h
  | isFalse h2 => exact q
section
variable {α : Type} [DecidableEq α] (A : Enc α)
theorem nk_eq {a b : α} : (PV.nk (A.f a) = PV.nk (A.f b)) ↔ a = b := ⟨A.kinj a b, fun h => by rw [h]⟩
def fd (P : List α) (b : α → PV) : List (PV × PV) := P.map fun p => (A.f p, b p)
theorem pget_fd {P : List α} {b : α → PV} {p : α} (h : p ∈ P) : pget (fd A P b) (A.f p) = some (b p) := by
  induction P with
  | nil => cases h
  | cons q P ih =>
    unfold fd at ih ⊢
    rw [List.map_cons, pget_cons]
    by_cases c : q = p
    · subst c; rw [if_pos rfl]
    · rw [if_neg (fun z => c ((nk_eq A).mp z))]
      exact ih ((List.mem_cons.mp h).resolve_left fun z => c z.symm)
theorem pput_new {acc : List (PV × PV)} {k x : PV} (h : pget acc k = none) : pput acc k x = acc ++ [(k, x)] := by
  unfold pput; rw [h]; rfl
theorem pget_none {acc : List (PV × PV)} {k : PV} (h : ∀ p ∈ acc, PV.nk p.1 ≠ PV.nk k) : pget acc k = none := by
  induction acc with
  | nil => rfl
  | cons p acc ih =>
    rw [pget_cons, if_neg (h p List.mem_cons_self)]
    exact ih fun q hq => h q (List.mem_cons_of_mem _ hq)
theorem runD_new {β : Type} {tp : Bool} {g : QG} {t : QT} {qk qv : QE} {vs : List Nat} {k : List (PV × PV) → PEnv → Prop} {e : PEnv} (enc : β → PV) (key : β → α) (out : β → PV) (kA : ∀ a, keyA (A.f a) = true ∧ isT (A.f a) = tp) : ∀ (xs : List β) (acc : List (PV × PV)), acc.length + xs.length ≤ SZ → (xs.map key).Nodup → (∀ x ∈ xs, ∀ p ∈ acc, PV.nk p.1 ≠ PV.nk (A.f (key x))) →
    (∀ x ∈ xs, ∀ (R : PV → PV → PEnv → Prop) (R0 : PEnv → Prop), R (A.f (key x)) (out x) e → g (enc x) e fun e1 => t e1 fun b e2 => if b = true then qk e2 fun r e3 => keep r e3 fun kk e4 => qv e4 fun r2 e5 => keep r2 e5 fun y e6 => R kk y (wipeE e6 vs) else R0 (wipeE e2 vs)) →
    k (acc ++ xs.map fun x => (A.f (key x), out x)) e → runD tp g t qk qv vs (xs.map enc) acc e k
  | [], acc, _, _, _, _, h => by show k acc e; simpa using h
  | x :: xs, acc, few, nd, nw, st, h => by
    rw [List.length_cons] at few
    rw [List.map_cons] at nd
    obtain ⟨n1, n2⟩ := List.nodup_cons.mp nd
    refine st x List.mem_cons_self (fun kk y e' => (keyA kk = true ∧ isT kk = tp ∧ acc.length < SZ) ∧ runD tp g t qk qv vs (xs.map enc) (pput acc kk y) e' k) (fun e' => runD tp g t qk qv vs (xs.map enc) acc e' k) ⟨⟨(kA _).1, (kA _).2, by omega⟩, ?_⟩
    rw [pput_new (pget_none (nw x List.mem_cons_self))]
    refine runD_new enc key out kA xs _ (by rw [List.length_append, List.length_singleton]; omega) n2 (fun y hy p hp => ?_) (fun y hy => st y (List.mem_cons_of_mem _ hy)) (by rw [List.append_assoc]; exact h)
    rcases List.mem_append.mp hp with hp | hp
    · exact nw y (List.mem_cons_of_mem _ hy) p hp
    · rw [List.mem_singleton] at hp
      subst hp
      exact fun z => n1 (List.mem_map.mpr ⟨y, hy, ((nk_eq A).mp z).symm⟩)
end
end CP
namespace CP
open PySem PySem.Spec PyProof.Rows L2
theorem hq_is_row (C : Addr) : ∀ ss Q, g_is_row C ss Q → q_is_row C (bodyEnds 1 Q) (startE 1 ss) := by
  rintro _ Q ⟨p, hp, rfl, h⟩
  conv => whnf
  refine ⟨by decide, ?_⟩
  conv => whnf
  refine ⟨hp, ⟨by simp, by simp⟩, ?_⟩
  have e : (isaB (tyN p) "list" || isaB (tyN p) "tuple") = (tyN p == "list" || tyN p == "tuple") := by
    unfold isaB
    cases p <;> simp only [tyN] <;> first | decide +kernel | exact hp.elim
  rw [e]
  exact h
theorem hq_is_couple (C : Addr) : ∀ ss Q, g_is_couple C ss Q → q_is_couple C (bodyEnds 1 Q) (startE 1 ss) := by
  rintro _ Q ⟨a, b, rfl, h⟩
  conv => whnf
  refine ⟨trivial, by simp, ?_⟩
  rw [isa_tup]
  exact h
theorem hq_is_name (C : Addr) : ∀ ss Q, g_is_name C ss Q → q_is_name C (bodyEnds 1 Q) (startE 2 ss) := by
  rintro _ Q ⟨x, hx, rfl, h⟩
  have l := name_len hx
  conv => whnf
  refine ⟨trivial, by simp, ?_⟩
  rw [isa_str]
  conv => whnf
  refine ⟨by unfold SZ; omega, ?_⟩
  conv => whnf
  conv => whnf
  try dsimp only
  rw [show decide ((x.length : Int) = 0) = false from decide_eq_false (by omega)]
  conv => whnf
  refine ⟨by unfold SZ; omega, ?_⟩
  conv => whnf
  conv => whnf
  try dsimp only
  rw [show decide ((8 : Int) < (x.length : Int)) = false from decide_eq_false (by omega)]
  conv => whnf
  refine ⟨by unfold SZ; omega, rfl, ?_⟩
  refine runC_all (fun c => .str ⟨#[c]⟩) (fun c => .bl (decide (c ∈ v_LETTERS.cps.toList))) x.cps.toList (fun c hc R R0 hR => ?_) ?_
  · conv => whnf
    exact ⟨c, rfl, hR⟩
  · conv => whnf
    refine ⟨rfl, ?_⟩
    conv => whnf
    rw [blsOf_mapf]
    have : (x.cps.toList.map fun c => decide (c ∈ v_LETTERS.cps.toList)).all _root_.id = true := by
      unfold nameB at hx
      rw [Bool.and_eq_true_iff] at hx
      rw [List.all_map]
      exact hx.2
    conv => whnf
    try dsimp only
    rw [this]
    conv => whnf
    exact h
theorem isRow_ty {p : PV} {xs : List PV} (h : isRow p xs) : tyOk p ∧ (tyN p == "list" || tyN p == "tuple") = true := by
  rcases h with rfl | rfl
  · exact ⟨trivial, by show ("list" == "list" || "list" == "tuple") = true; decide +kernel⟩
  · exact ⟨trivial, by show ("tuple" == "list" || "tuple" == "tuple") = true; decide +kernel⟩
theorem nks_nd {α : Type} [DecidableEq α] (A : Enc α) {xs : List α} : ((xs.map A.f).map PV.nk).Nodup ↔ xs.Nodup := by
  rw [List.map_map]
  exact ⟨fun h => nodup_of_map h, fun h => nodup_map (fun a b e => A.kinj a b e) h⟩
theorem allS (xs : List Str) : (xs.map PV.str).all isS = true := by rw [List.all_map]; exact List.all_eq_true.mpr fun _ _ => rfl
theorem keyB_pE (e : Ed2) : PV.keyB (pE e) = true := by
  unfold PV.keyB pE
  simp [PV.kOk, PV.kOks, PV.nk, PV.nks, NestedKey.depth, NestedKey.depthAll]
theorem allE (xs : List Ed2) : (xs.map pE).all PV.keyB = true := by rw [List.all_map]; exact List.all_eq_true.mpr fun e _ => keyB_pE e
theorem hq_are_vertices (C : Addr) : ∀ ss Q, g_are_vertices C ss Q → q_are_vertices C (bodyEnds 1 Q) (startE 2 ss) := by
  rintro _ Q ⟨v, ns, hv, hr, rfl, h⟩
  obtain ⟨ty, rw1⟩ := isRow_ty hr
  have lens : (ns.map PV.str).length = ns.length := List.length_map ..
  have l1 := hv.n1
  have l8 := hv.n8
  rcases hr with rfl | rfl
  all_goals
    conv => whnf
    refine ⟨_, ty, rfl, ?_⟩
    conv => whnf
    try dsimp only
    rw [lens, show decide ((ns.length : Int) = 0) = false from decide_eq_false (by omega)]
    conv => whnf
    conv => whnf
    try dsimp only
    rw [lens, show decide ((8 : Int) < (ns.length : Int)) = false from decide_eq_false (by omega)]
    conv => whnf
    refine ⟨rfl, ?_⟩
    refine runC_all PV.str (fun _ => .bl true) ns (fun x hx R R0 hR => ?_) ?_
    · conv => whnf
      exact ⟨x, hv.nm x hx, rfl, hR⟩
    · conv => whnf
      refine ⟨rfl, ?_⟩
      conv => whnf
      rw [blsOf_mapf]
      have t : (ns.map fun _ => true).all _root_.id = true := by rw [List.all_map]; exact List.all_eq_true.mpr fun _ _ => rfl
      conv => whnf
      try dsimp only
      rw [t]
      conv => whnf
      refine ⟨by rw [allS]; rfl, by rw [lens]; omega, fun n h1 h2 => ?_⟩
      have e : n = ns.length := by
        rw [lens] at h2
        exact h2.mpr ((nks_nd encS).mpr hv.nd)
      subst e
      conv => whnf
      try dsimp only
      rw [lens, show decide ((ns.length : Int) = (ns.length : Int)) = true from decide_eq_true rfl]
      conv => whnf
      exact h
theorem hq_is_among (C : Addr) : ∀ ss Q, g_is_among C ss Q → q_is_among C (bodyEnds 2 Q) (startE 2 ss) := by
  rintro _ Q ⟨v, ns, x, ⟨h1, h2⟩, hr, rfl, h⟩
  rcases hr with rfl | rfl
  · conv => whnf
    refine ⟨trivial, by simp, ?_⟩
    conv => whnf
    refine ⟨⟨shpS h2, shpSl h1⟩, ?_⟩
    rw [hasS]
    exact h
  · conv => whnf
    refine ⟨trivial, by simp, ?_⟩
    conv => whnf
    refine ⟨⟨shpS h2, shpSs h1⟩, ?_⟩
    rw [hasS]
    exact h
theorem hq_joins (C : Addr) : ∀ ss Q, g_joins C ss Q → q_joins C (bodyEnds 2 Q) (startE 4 ss) := by
  rintro _ Q ⟨v, ns, e, ⟨h1, h2⟩, hr, rfl, h⟩
  conv => whnf
  refine ⟨_, _, rfl, ?_⟩
  conv => whnf
  refine ⟨v, ns, e.1, ⟨h1, (okE h2).1⟩, hr, rfl, ?_⟩
  cases c1 : decide (e.1 ∈ ns) with
  | false =>
    rw [show decide (e.1 ∈ ns ∧ e.2 ∈ ns) = false from decide_eq_false fun z => of_decide_eq_false c1 z.1] at h
    exact h
  | true =>
    conv => whnf
    refine ⟨v, ns, e.2, ⟨h1, (okE h2).2⟩, hr, rfl, ?_⟩
    cases c2 : decide (e.2 ∈ ns) with
    | false =>
      rw [show decide (e.1 ∈ ns ∧ e.2 ∈ ns) = false from decide_eq_false fun z => of_decide_eq_false c2 z.2] at h
      exact h
    | true =>
      rw [show decide (e.1 ∈ ns ∧ e.2 ∈ ns) = true from decide_eq_true ⟨of_decide_eq_true c1, of_decide_eq_true c2⟩] at h
      conv => whnf
      refine ⟨⟨rfl, rfl, encS.alike _ _, encS.nn _, Nat.le_trans (encS.depth e.1) (by decide)⟩, ?_⟩
      have d := encS.dlt e.1 e.2
      rw [show dLt (PV.toD (.str e.1)) (PV.toD (.str e.2)) = strLt e.1 e.2 from d]
      exact h
theorem hq_are_edges (C : Addr) : ∀ ss Q, g_are_edges C ss Q → q_are_edges C (bodyEnds 2 Q) (startE 3 ss) := by
  rintro _ Q ⟨v, w, ns, es, hg, hv, hr, rfl, h⟩
  obtain ⟨ty, rw1⟩ := isRow_ty hr
  have lens : (es.map pE).length = es.length := List.length_map ..
  have l8 := hg.e18
  rcases hr with rfl | rfl
  all_goals
    conv => whnf
    refine ⟨_, ty, rfl, ?_⟩
    conv => whnf
    try dsimp only
    rw [lens, show decide ((18 : Int) < (es.length : Int)) = false from decide_eq_false (by omega)]
    conv => whnf
    refine ⟨rfl, ?_⟩
    refine runC_all pE (fun _ => .bl true) es (fun x hx R R0 hR => ?_) ?_
    · conv => whnf
      have ed := hg.ed x hx
      refine ⟨v, ns, x, ⟨hg.toVsOk.oks, hg.okE hx⟩, hv, rfl, ?_⟩
      rw [show (decide (x.1 ∈ ns ∧ x.2 ∈ ns) && strLt x.1 x.2) = true from by rw [decide_eq_true ⟨ed.l, ed.r⟩, ed.lt]; rfl]
      exact hR
    · conv => whnf
      refine ⟨rfl, ?_⟩
      conv => whnf
      rw [blsOf_mapf]
      have t : (es.map fun _ => true).all _root_.id = true := by rw [List.all_map]; exact List.all_eq_true.mpr fun _ _ => rfl
      conv => whnf
      try dsimp only
      rw [t]
      conv => whnf
      refine ⟨by rw [allE, Bool.or_true], by rw [lens]; omega, fun n h1 h2 => ?_⟩
      have e : n = es.length := by
        rw [lens] at h2
        exact h2.mpr ((nks_nd encE).mpr hg.end_)
      subst e
      conv => whnf
      try dsimp only
      rw [lens, show decide ((es.length : Int) = (es.length : Int)) = true from decide_eq_true rfl]
      conv => whnf
      exact h
theorem hq_Graph (C : Addr) : ∀ ss Q, g_Graph C ss Q → q_Graph C (bodyEnds 3 Q) (startE 3 ss) := by
  rintro _ Q ⟨v, w, ns, es, hg, hv, hr, rfl, h⟩
  have hv := hv.resolve_right _root_.id
  subst hv
  conv => whnf
  refine ⟨_, ns, hg.toVsOk, .inl rfl, rfl, ?_⟩
  conv => whnf
  refine ⟨_, w, ns, es, hg, .inl rfl, hr, rfl, ?_⟩
  rcases hr with rfl | rfl
  all_goals
    conv => whnf
    refine ⟨ns, rfl, ⟨rfl, by decide⟩, ?_⟩
    conv => whnf
    refine ⟨encE.sortd es, ?_⟩
    conv => whnf
    refine ⟨rfl, ?_⟩
    conv => whnf
    refine ⟨⟨rfl, by decide⟩, ?_⟩
    rw [show sortP (es.map pE) = (encE.srtd es).map pE from encE.sortP es]
    exact h
theorem hq_is_edge (C : Addr) : ∀ ss Q, g_is_edge C ss Q → q_is_edge C (bodyEnds 2 Q) (startE 2 ss) := by
  rintro _ Q ⟨ns, es, e, hg, he, rfl, h⟩
  conv => whnf
  refine ⟨rfl, ?_⟩
  conv => whnf
  refine ⟨_, ns, e, ⟨hg.toVsOk.oks, he⟩, .inr rfl, rfl, ?_⟩
  cases c1 : (decide (e.1 ∈ ns ∧ e.2 ∈ ns) && strLt e.1 e.2) with
  | false =>
    have : decide (e ∈ es) = false := decide_eq_false fun z => by
      have := hg.ed e z
      rw [decide_eq_true ⟨this.l, this.r⟩, this.lt] at c1
      cases c1
    rw [this] at h
    exact h
  | true =>
    conv => whnf
    refine ⟨rfl, ?_⟩
    conv => whnf
    refine ⟨⟨shpE he, shpEs hg.oks⟩, ?_⟩
    rw [hasE]
    exact h
end CP
namespace CP
open PySem PySem.Spec PyProof.Rows L2
end CP
namespace CP
open PySem PySem.Spec PyProof.Rows L2
theorem apart_comm (e f : Ed2) : apart e f = apart f e := by
  unfold apart
  exact decide_eq_decide.mpr ⟨fun ⟨a, b, c, d⟩ => ⟨fun z => a z.symm, fun z => c z.symm, fun z => b z.symm, fun z => d z.symm⟩, fun ⟨a, b, c, d⟩ => ⟨fun z => a z.symm, fun z => c z.symm, fun z => b z.symm, fun z => d z.symm⟩⟩
theorem apart_self (e : Ed2) : apart e e = false := by unfold apart; exact decide_eq_false fun z => z.1 rfl
theorem flips_ok {ns : List Str} {es : List Ed2} (hg : GrOk ns es) {c : Ca2} (hc : CaOk ns es c) : RecOk es (flips es c) := by
  have other : ∀ o ∈ es.filter fun o => decide (c.2 = o.1 ∨ c.2 = o.2) && apart c.1 o, o ∈ es ∧ apart c.1 o = true ∧ o ≠ c.1 := fun o ho => by
    obtain ⟨h1, h2⟩ := List.mem_filter.mp ho
    rw [Bool.and_eq_true_iff] at h2
    exact ⟨h1, h2.2, fun z => by rw [z, apart_self] at h2; cases h2.2⟩
  refine ⟨?_, fun p hp => ?_⟩
  · unfold flips
    refine List.pairwise_map.mpr (List.Pairwise.imp_of_mem (fun {a b} ha hb h z => h ?_) (List.Pairwise.filter _ (encE.asc_nd hg.asc)))
    have na := (other a ha).2.2
    have nb := (other b hb).2.2
    have z : (if encE.lt a c.1 = true then (a, c.1) else (c.1, a)) = (if encE.lt b c.1 = true then (b, c.1) else (c.1, b)) := z
    split at z <;> split at z
    · exact congrArg (·.1) z
    · exact absurd (congrArg (·.1) z) na
    · exact absurd (congrArg (·.1) z).symm nb
    · exact congrArg (·.2) z
  · obtain ⟨o, ho, rfl⟩ := List.mem_map.mp hp
    obtain ⟨h1, h2, h3⟩ := other o ho
    refine (prs_iff hg.asc).mpr ?_
    cases c3 : encE.lt o c.1 with
    | true => exact ⟨h1, hc.e, c3, by rw [apart_comm]; exact h2⟩
    | false => exact ⟨hc.e, h1, encE.total _ _ h3 c3, h2⟩
theorem everyC_len (ns : List Str) (es : List Ed2) : (everyC ns es).length ≤ es.length * ns.length := by
  unfold everyC
  induction es with
  | nil => simp
  | cons e es ih =>
    rw [List.flatMap_cons, List.length_append, List.length_map, List.length_cons, Nat.add_mul]
    have := List.length_filter_le (fun v => decide (v ≠ e.1 ∧ v ≠ e.2)) (encS.srtd ns)
    rw [encS.srtd_len] at this
    omega
theorem GrIn.carries_few {ns : List Str} {es : List Ed2} (hg : GrIn ns es) : (everyC ns es).length ≤ 144 := by
  have h1 := everyC_len ns es
  have h2 : es.length * ns.length ≤ 18 * 8 := Nat.mul_le_mul hg.e18 hg.n8
  omega
theorem everyC_ok {ns : List Str} {es : List Ed2} {c : Ca2} : c ∈ everyC ns es ↔ CaOk ns es c := by
  unfold everyC
  constructor
  · intro h
    obtain ⟨e, he, h⟩ := List.mem_flatMap.mp h
    obtain ⟨v, hv, rfl⟩ := List.mem_map.mp h
    obtain ⟨h1, h2⟩ := List.mem_filter.mp hv
    have h2 := of_decide_eq_true h2
    exact ⟨he, (encS.srtd_perm ns).mem_iff.mp h1, h2.1, h2.2⟩
  · intro h
    exact List.mem_flatMap.mpr ⟨c.1, h.e, List.mem_map.mpr ⟨c.2, List.mem_filter.mpr ⟨(encS.srtd_perm ns).mem_iff.mpr h.v, decide_eq_true ⟨h.n1, h.n2⟩⟩, rfl⟩⟩
end CP
namespace CP
open PySem PySem.Spec PyProof.Rows L2
section
variable {G : Gh} {lv : Nat} {X : Cx} {o : Expr} {qo : QE}
end
end CP
namespace CP
open PySem PySem.Spec PyProof.Rows L2
section
variable {G : Gh} {lv : Nat} {X : Cx} {a o : Expr} {es : List Expr} {qo : QE} {qA : QAs} {cpos apos pos : Pos}
theorem Good.nox (g : Good G lv X) : Good G lv X.nox := ⟨g.P, g.w, g.K, g.calm, g.nd, g.room⟩
end
end CP
namespace CP
open PySem PySem.Spec PyProof.Rows L2
section
variable {G : Gh} {lv : Nat} {X : Cx}
end
end CP
namespace CP
open PySem PySem.Spec PyProof.Rows L2
section
variable {G : Gh} {lv : Nat} {X : Cx}
end
end CP
namespace CP
open PySem PySem.Spec PyProof.Rows L2
section
variable {G : Gh} {lv : Nat} {X : Cx}
end
end CP
namespace CP
open PySem PySem.Spec PyProof.Rows L2
def KvsU (P : Program) (w : World) (d : Addr) (u : HO) (vs xs : List V) : Prop := (∃ kvs : List (Key × V), u = .dK kvs ∧ vs = kvs.map (fun p => kV p.1) ∧ xs = kvs.map (·.2)) ∨ ∃ c, u = DctG P w d c ∧ vs = c.map (fun x => V.ref x.2.1) ∧ xs = c.map (·.2.2)
theorem vals_rel {P : Program} {w : World} : ∀ {es : List DictEntry} {ws : List (Key × Value)} {kvs : List (Key × V)}, Pairs (mixKind P w) es ws → KV kvs ws → Vals (kvs.map (·.2)) (es.map (·.val))
  | _, _, _, .nil, r => by cases r; exact .nil
  | _, _, _, .cons h1 h2 t, r => by
    cases r with
    | cons r0 rt => exact .cons (by have q := r0.2; dsimp only; rw [h2]; exact q) (vals_rel t rt)
theorem vals_relG {P : Program} {w : World} : ∀ {us : List (NestedKey × Addr × Value)} {c : CnG}, Paired LikeG c us → Vals (c.map (·.2.2)) ((us.map (entryOfKey (nestedKind P w))).map (·.val))
  | _, _, .nil => .nil
  | _, _, .cons h t => .cons h.2.2 (vals_relG t)
section
variable {X : Cx} {pins : List (Addr × PySem.Obj)} {σ : L2.St} {H : Hp} {s : Shared}
theorem kvs_raw {d : Addr} {u : HO} {vs xs : List V} (k : KvsU X.prog X.w d u vs xs) (ok : ObjOk X.prog X.w H s.heap d u) : (d == sysModules) = false ∧ ∃ o es ep, s.heap.get? d = some o ∧ o.ExactDict ∧ o.data = .dict es ep ∧ Vals vs (es.toList.map (·.key)) ∧ Vals xs (es.toList.map (·.val)) := by
  rcases k with ⟨kvs, rfl, rfl, rfl⟩ | ⟨c, rfl, rfl, rfl⟩
  · obtain ⟨_, sy, ws, rel, o, es, ep, h1, h2, h3, _, h5, _⟩ := ok
    exact ⟨sy, o, es, ep, h1, h2, h3, keys_rel h5 rel, vals_rel h5 rel⟩
  · obtain ⟨⟨sy, o, es, ep, us, h1, h2, h3, h4, _, h6⟩, _⟩ := ok
    refine ⟨sy, o, es, ep, h1, h2, h3, ?_⟩
    rw [h4]
    exact ⟨keys_relG h6, vals_relG h6⟩
theorem vals_len {xs : List V} {es : Array DictEntry} (r : Vals xs (es.toList.map (·.val))) : es.size = xs.length := by
  have := r.length
  rw [List.length_map, Array.length_toList] at this
  exact this.symm
theorem vals_at {xs : List V} {es : Array DictEntry} (r : Vals xs (es.toList.map (·.val))) {i : Nat} {v : V} (h : xs[i]? = some v) {hi : i < es.size} : RelV v es[i].val := by
  obtain ⟨u, hu, ru⟩ := r.get h
  rw [List.getElem?_map, Array.getElem?_toList, Array.getElem?_eq_getElem hi] at hu
  cases hu; exact ru
theorem keys_at {vs : List V} {es : Array DictEntry} (r : Vals vs (es.toList.map (·.key))) {i : Nat} {v : V} (h : vs[i]? = some v) {hi : i < es.size} : RelV v es[i].key := by
  obtain ⟨u, hu, ru⟩ := r.get h
  rw [List.getElem?_map, Array.getElem?_toList, Array.getElem?_eq_getElem hi] at hu
  cases hu; exact ru
end
def KvS (P : Program) (w : World) (d : Addr) (o : PySem.Obj) (u : HO) (vs xs : List V) (H : Hp) : Prop := H d = some (.frz o u) ∧ KvsU P w d u vs xs ∧ vs.length = xs.length
def Itp (P : Program) (w : World) (d : Addr) (o : PySem.Obj) (u : HO) (vs xs : List V) : It :=
  ⟨fun i H => KvS P w d o u vs xs H ∧ i < xs.length, fun i H v H' => ∃ T x y, v = .ref T ∧ H T = none ∧ H' = upd H T (.tup [x, y]) ∧ vs[i]? = some x ∧ xs[i]? = some y, fun i H => KvS P w d o u vs xs H ∧ xs.length ≤ i⟩
theorem kv_look {P : Program} {w : World} {d : Addr} {o : PySem.Obj} {u : HO} {vs xs : List V} {es : Array DictEntry} {ep : Nat} (hod : o.data = .dict es ep) : ∀ {X : Cx} {pins : List (Addr × PySem.Obj)} {σ : L2.St} {H : Hp} {s : Shared}, X.prog = P → X.w = w → L2.Inv X pins σ H s → KvS P w d o u vs xs H → s.heap.DictRaw d es ep ∧ Vals vs (es.toList.map (·.key)) ∧ Vals xs (es.toList.map (·.val)) := by
  intro X pins σ H s e1 e2 I ⟨hd, k, _⟩
  subst e1 e2
  obtain ⟨g, q⟩ := I.hok d _ hd
  obtain ⟨_, o', es', ep', h1, h2, h3, h4⟩ := kvs_raw k q
  rw [g] at h1; cases h1
  obtain ⟨rfl, rfl⟩ := dict_ep hod h3
  exact ⟨⟨_, g, h2, h3⟩, h4⟩
theorem turn_p {P : Program} {w : World} {K : PySem.W.Frag} {elts : List Expr} {kk : Nat} {tpos : Pos} {d : Addr} {o : PySem.Obj} {u : HO} {vs xs : List V} {es : Array DictEntry} {ep : Nat} (it : Addr) (hod : o.data = .dict es ep) :
    Turn P w K (.Tuple elts kk tpos) (Itp P w d o u vs xs) [it] it (fun i h => ∃ ok ov, IsItemIter h it d i xs.length ep ok ov) := by
  constructor
  · simp
  · rintro i h st b hb
    obtain rfl : b = it := by simpa using hb
    obtain ⟨ok, ov, e⟩ := st
    exact ⟨_, e, fun v z => nomatch z⟩
  · exact fun i h h' st k => let ⟨ok, ov, e⟩ := st; ⟨ok, ov, k it (by simp) _ e⟩
  · intro X hP hw hK calm i pins s σ H E I own st hg
    obtain ⟨ks, lt⟩ := hg
    obtain ⟨raw, r1, r2⟩ := kv_look hod hP hw I ks
    obtain ⟨y, hy⟩ : ∃ v, xs[i]? = some v := ⟨xs[i], List.getElem?_eq_getElem lt⟩
    obtain ⟨x, hx⟩ : ∃ v, vs[i]? = some v := ⟨vs[i]'(by rw [ks.2.2]; exact lt), List.getElem?_eq_getElem _⟩
    have len := vals_len r2
    obtain ⟨ok, ov, he⟩ := st
    rw [← len] at he lt
    have hlt : it < s.heap.objs.size := Heap.lt_size he
    subst hP hw hK
    refine wpAny_pyNext_items_item_raw he raw lt fun h' ho hT hz hk => ?_
    refine ⟨_, rfl, wpAny_letOwnedTupleGo_items (s := { s with heap := h' }) ho fun h'' he' sb => ?_⟩
    have hT2 : h''.get? s.heap.objs.size = some { cls := .type "tuple", data := .seq #[es[i].key, es[i].val] } := (sb.2 _ (Nat.ne_of_gt hlt)).trans hT
    have new : ObjOk X.prog X.w (upd H s.heap.objs.size (.tup [x, y])) h'' s.heap.objs.size (.tup [x, y]) :=
      ⟨by show 2 ≤ sizeLine; decide, [es[i].key, es[i].val], .cons (keys_at r1 hx) (.cons (vals_at r2 hy) .nil), ⟨_, hT2, rfl, _, rfl⟩⟩
    have I1 : L2.Inv X pins σ (upd H s.heap.objs.size (.tup [x, y])) { s with heap := h'' } :=
      I.turnedNew (t' := s.toks) (ch := [it]) (fun b ob hb e => (sb.2 b (by simpa using hb)).trans (hk b ob (by simpa using hb) e)) own (Nat.le_refl _) new
    refine ⟨.ref s.heap.objs.size, _, I1, rfl, ⟨_, x, y, rfl, I.hok.fresh (Nat.le_refl _), rfl, hx, hy⟩, ⟨es[i].key, es[i].val, ?_⟩, fun b hb => ?_⟩
    · rw [← len]; exact he'
    · obtain rfl : b = it := by simpa using hb
      rw [upd_ne (Nat.ne_of_lt hlt)]
      exact (own b (by simp)).1
  · intro X hP hw hK calm i pins s σ H E I own st hg
    obtain ⟨ks, le⟩ := hg
    obtain ⟨f0, f1, f2, f3, f4, f5⟩ := own it (by simp)
    obtain ⟨raw, r1, r2⟩ := kv_look hod hP hw I ks
    have len := vals_len r2
    obtain ⟨ok, ov, he⟩ := st
    rw [← len] at he le
    subst hP hw
    exact wpAny_pyNext_items_end_raw (I.ok.hd calm) he raw le fun h2 eb => ⟨rfl, I.turned (t' := s.toks) (fun b ob hb e => eb b ob hb e) f0 f1 f3 f4 f5⟩
  · exact fun A i s Q E st h => let ⟨_, _, e⟩ := st; PySem.W.kcp_self e h
section
variable {X : Cx} {tg e : Expr} {td : TE} {apos cpos : Pos}
def iKvW (P : Program) (w : World) (J : Addr → PySem.Obj → HO → List V → List V → It) (td : TE) : TI := fun σ H R => td σ H fun x H1 => ∃ d o u vs xs, x = V.ref d ∧ KvS P w d o u vs xs H1 ∧ R (J d o u vs xs) H1
theorem pi_itemsU {elts : List Expr} {kk : Nat} {tpos : Pos} (he : PE X e td) (hbase : attributeBase e "items" X.env (eval e X.env) = eval e X.env := by rfl) (hline : (apos.endLine == cpos.line) = true := by rfl) :
    PI X (.Tuple elts kk tpos) (.Call (.Attribute e "items" apos) [] [] cpos) (iKvW X.prog X.w (Itp X.prog X.w) td) := by
  refine ⟨fun pins s σ H R I h => ?_⟩
  refine wpAny_Call_method (T := "dict") (id := "dict.items") hbase rfl hline F.plainAttrs_dict F.slot_dict_items F.type_dict_items (thn (he.run pins s σ H _ I h) fun v s1 ⟨x, H1, I1, rx, d, o, u, vs, xs, ex, ks, q⟩ => ?_)
  subst ex
  obtain rfl : v = Value.ref d := rx
  obtain ⟨hgd, ok⟩ := I1.hok d _ ks.1
  obtain ⟨sy, o', es, ep, h1, h2, h3, r1, r2⟩ := kvs_raw ks.2.1 ok
  rw [hgd] at h1; cases h1
  have raw : s1.heap.DictRaw d es ep := ⟨_, hgd, h2, h3⟩
  have len := vals_len r2
  refine ⟨raw.typeIs, fun b eb => by cases eb; exact ⟨_, hgd, h2.2.1⟩, ?_⟩
  have I2 : L2.Inv X pins σ H1 { s1 with heap := s1.heap.push { cls := .type "dict_items", data := .fields #[.ref d] } } := I1.kept (t' := s1.toks) fun b ob q => Heap.get?_push_of_some _ q
  have fin : wpAny (model X.prog X.w) X.A (pyIter (.ref s1.heap.objs.size)) (PIE X pins σ (.Tuple elts kk tpos) R) X.xe { s1 with heap := s1.heap.push { cls := .type "dict_items", data := .fields #[.ref d] } } := by
    refine wpAny_pyIter_items_raw (d := d) (ep := ep) (es := es) ⟨_, Heap.get?_push_size _ rfl, rfl, rfl⟩ (raw.at fun ob e => Heap.get?_push_of_some _ e) (pi_one (tk := s1.toks) I2 _ (turn_p _ h3) ⟨.none, .none, ?_⟩ q)
    rw [← len]
    exact Heap.get?_push_size _ rfl
  show wpAny _ _ (callWith cpos (.builtin "dict.items") [.ref d] [] []) _ X.xe s1
  exact method_meetsIn F.slot_dict_items F.entry_dict_items rfl (PySem.evalArgs_none ⟨rfl, raw.typeIs, F.args_dict_items_1 _, _, meets_dict_items_raw d sy, ⟨es, ep, raw⟩, fin⟩)
end
section
variable {G : Gh} {lv : Nat} {X : Cx} {a b c o : Expr} {es : List Expr} {qa qb : QE} {qA : QAs} {pos p apos cpos tpos : Pos} {e : PEnv} {M : Addr → Prop} {σ : L2.St} {H : Hp} {tg : Expr}
theorem kvs_of {u : HO} {d : Addr} {ps : List (PV × PV)} (dv : (∃ kvs : List (Key × V), u = .dK kvs ∧ ps.map (·.1) = kvs.map (fun p => keyP p.1) ∧ RepAll G.toEn H M (kvs.map (·.2)) (ps.map (·.2))) ∨ ∃ c, u = DctG G.P G.w d c ∧ RepAll G.toEn H M (c.map fun x => .ref x.2.1) (ps.map (·.1)) ∧ RepAll G.toEn H M (c.map (·.2.2)) (ps.map (·.2))) :
    ∃ vs xs, KvsU G.P G.w d u vs xs ∧ RepAll G.toEn H M vs (ps.map (·.1)) ∧ RepAll G.toEn H M xs (ps.map (·.2)) := by
  rcases dv with ⟨kvs, rfl, h1, h2⟩ | ⟨c, rfl, h1, h2⟩
  · refine ⟨_, _, .inl ⟨kvs, rfl, rfl, rfl⟩, ?_, h2⟩
    rw [h1]
    clear h1 h2
    induction kvs with
    | nil => exact .nil
    | cons kv kvs ih =>
      refine .cons ?_ ih
      show Rep G.toEn H M (kV kv.1) (keyP kv.1)
      cases kv.1 with
      | inl i => exact .int i
      | inr x => exact .str x
  · exact ⟨_, _, .inr ⟨c, rfl, rfl, rfl⟩, h1, h2⟩
theorem kvs_rep {d : Addr} {ps : List (PV × PV)} (r : Rep G.toEn H M (.ref d) (.dic ps)) : ∃ ob u vs xs, KvS G.P G.w d ob u vs xs H ∧ ¬ M d ∧ RepAll G.toEn H M vs (ps.map (·.1)) ∧ RepAll G.toEn H M xs (ps.map (·.2)) := by
  cases r with
  | dicK h n ek rr =>
    obtain ⟨vs, xs, q1, q2, q3⟩ := kvs_of (G := G) (H := H) (M := M) (d := d) (.inl ⟨_, rfl, ek, rr⟩)
    exact ⟨_, _, vs, xs, ⟨h, q1, by rw [q2.length, q3.length, List.length_map, List.length_map]⟩, n, q2, q3⟩
  | dicG h n rk ko ek rr =>
    obtain ⟨vs, xs, q1, q2, q3⟩ := kvs_of (G := G) (H := H) (M := M) (d := d) (.inr ⟨_, rfl, rk, rr⟩)
    exact ⟨_, _, vs, xs, ⟨h, q1, by rw [q2.length, q3.length, List.length_map, List.length_map]⟩, n, q2, q3⟩
def itemsP (ps : List (PV × PV)) : List PV := ps.map fun p => .tup [p.1, p.2]
theorem walks_p {d : Addr} {ob : PySem.Obj} {u : HO} {vs xs : List V} {ps : List (PV × PV)} (hd : KvS G.P G.w d ob u vs xs H) (nm : ¬ M d) (r1 : RepAll G.toEn H M vs (ps.map (·.1))) (r2 : RepAll G.toEn H M xs (ps.map (·.2))) : Walks G (Itp G.P G.w d ob u vs xs) (itemsP ps) H M := fun H2 M2 s tr => by
  have hd2 : KvS G.P G.w d ob u vs xs H2 := ⟨s.keep _ _ hd.1 nm, hd.2⟩
  have hn : (itemsP ps).length = xs.length := by rw [r2.length]; simp [itemsP]
  refine ⟨fun i t ht => ?_, ⟨hd2, by rw [hn]; exact Nat.le_refl _⟩⟩
  have li : i < xs.length := by rw [← hn]; exact (List.getElem?_eq_some_iff.mp ht).1
  refine ⟨⟨hd2, li⟩, fun v H3 y => ?_⟩
  obtain ⟨T, x, z, rfl, hT, rfl, hx, hz⟩ := y
  unfold itemsP at ht
  rw [List.getElem?_map] at ht
  cases c : ps[i]? with
  | none => rw [c] at ht; cases ht
  | some p =>
    rw [c] at ht; cases ht
    have p1 : (ps.map (·.1))[i]? = some p.1 := by rw [List.getElem?_map, c]; rfl
    have p2 : (ps.map (·.2))[i]? = some p.2 := by rw [List.getElem?_map, c]; rfl
    obtain ⟨v1, hv1, q1⟩ := r1.get' p1
    obtain ⟨v2, hv2, q2⟩ := r2.get' p2
    rw [hx] at hv1; cases hv1
    rw [hz] at hv2; cases hv2
    refine ⟨.inr ⟨T, _, hT, rfl⟩, ?_⟩
    have st : Step H2 M2 (L2.upd H2 T (.tup [x, z])) M2 := step_new hT
    exact .tup ⟨.inl upd_same, fun m => tr T m hT⟩ (.cons ((q1.step s).step st) (.cons ((q2.step s).step st) .nil))
def dicU (p : PV) (k : List (PV × PV) → Prop) : Prop := match p with
  | .dic ps => ps.length ≤ SZ ∧ k ps
  | _ => False
def iqItems (q : QE) : QI := fun e K => q e fun r e1 => keep r e1 fun p e2 => dicU p fun ps => K (itemsP ps) e2
theorem i_items {elts : List Expr} {kk : Nat} (g : Good G lv X) (ha : PE X a (LE G qa)) (hbase : attributeBase a "items" X.env (eval a X.env) = eval a X.env := by rfl) (hline : (apos.endLine == cpos.line) = true := by rfl) :
    PI X (.Tuple elts kk tpos) (.Call (.Attribute a "items" apos) [] [] cpos) (LI G (iqItems qa)) := PI.imp (g.P ▸ g.w ▸ pi_itemsU ha hbase hline : PI X (.Tuple elts kk tpos) (.Call (.Attribute a "items" apos) [] [] cpos) (iKvW G.P G.w (Itp G.P G.w) (LE G qa))) fun σ H R ⟨e, M, K, S, q, f⟩ => ⟨e, M, _, S, q, fun r e1 k1 v H1 M1 S1 s1 R1 => by
  obtain ⟨p, e2, M2, k2, S2, s2, R2⟩ := keep_ok S1 R1 k1
  have st := s1.trans s2
  cases p with
  | dic ps =>
    have k2 : ps.length ≤ SZ ∧ K (itemsP ps) e2 := k2
    obtain ⟨few, k2⟩ := k2
    have len : (itemsP ps).length ≤ sizeLine := by unfold itemsP; rw [List.length_map]; exact sz_fits few
    obtain ⟨d, rfl⟩ : ∃ d, v = V.ref d := by cases R2 <;> exact ⟨_, rfl⟩
    obtain ⟨ob, u, vs, xs, q1, q2, q3, q4⟩ := kvs_rep R2
    exact ⟨d, ob, u, vs, xs, rfl, q1, f _ e2 k2 len _ H1 M2 S2 st (walks_p q1 q2 q3 q4)⟩
  | _ => exact (show False from k2).elim⟩
abbrev qMulW := qOp (gInt CMulW fun i j => i * j)
theorem q_mulW {qa qb : QE} (ha : PE X a (LE G qa)) (hb : PE X b (LE G qb)) : PE X (.BinOp a .Mult b pos) (LE G (qMulW qa qb)) := q_op op_mulW l_int ha hb
end
section
variable {X : Cx}
def rIsiD (P : Program) (w : World) (K : PySem.W.Frag) : List V → Hp → VK → Prop := fun xs H Q => ∃ (d : Addr) (u : HO) (vs : List V) (n : String) (b : Bool), xs = [.ref d, .ty n] ∧ Rd H d u ∧ KysU P w d u vs ∧ PySem.W.kitOne K (.type "dict") (.type n) = some b ∧ Q (.bl b) H
theorem call_isiD : CallR X (.builtin "isinstance") (rIsiD X.prog X.w X.K) := by
  intro pins s σ H xs us Q I r h
  obtain ⟨d, u, vs, n, b, rfl, hd, ky, e, q⟩ := h
  obtain ⟨u1, u2, rfl, r1, r2⟩ := vals2 r
  cases (show u1 = Value.ref d from r1)
  have e2 := (ClsV.ty n).eq r2
  subst e2
  obtain ⟨_, o, es, ep, h1, h2, h3, _⟩ := kys_raw ky (hd.ok I.hok)
  exact PySem.W.kia_one PySem.W.kitx_dict I.kIn ⟨o, h1, h2.1⟩ e (fun z => nomatch z) fun tk => ⟨.bl b, H, I.tok tk, rfl, q⟩
end
section
variable {G : Gh} {lv : Nat} {X : Cx} {a b c o : Expr} {es : List Expr} {qa qb : QE} {qA : QAs} {qB : QBs} {pos p apos cpos tpos : Pos} {e : PEnv} {M : Addr → Prop} {σ : L2.St} {H : Hp} {tg : Expr}
def gIsaU (ps : List PV) (k : QV → Prop) : Prop := match ps with
  | [.dic _, .ty n] => n ∈ ["int", "str", "list", "tuple", "dict", "bool"] ∧ k (.sh (.bl (isaB "dict" n)))
  | _ => gIsa ps k
theorem l_isaU : LiftC G (fun xs H Q => (rIsi G.K xs H Q ∨ rIsiT G.K xs H Q) ∨ rIsiD G.P G.w G.K xs H Q) gIsaU := fun e M σ H vs ps Q k S a g f => by
  unfold gIsaU at g
  split at g
  · rename_i qs n
    obtain ⟨v, w, rfl, b, c⟩ := acc2 a
    have ew : w = .ty n := by
      rcases c with c | ⟨_, rfl, c⟩
      · cases c; rfl
      · exact c.elim
    rw [ew]
    obtain ⟨d, rfl, dv⟩ := b.dic
    obtain ⟨u, ks, h1, h2, h3⟩ := dview_u dv
    exact .inr ⟨d, u, ks, n, _, rfl, h1, h2, kit_ty (isa_ok (by simp) g.1), aft_sh S (f _ g.2) (.bl _)⟩
  · exact .inl (l_isa _ _ _ _ _ _ _ _ S a g f)
theorem q_isaU (g : Good G lv X) (hm : X.mg "isinstance" = none) (ha : PA X (a :: es) (LB G qB)) (hg : Gl X "isinstance" := by rfl) (he : starEach (a :: es) X.env = (false, eval a X.env) :: starEach es X.env := by rfl) (hpl : (backTo pos (starEach es X.env)).any (·.1) = false := by rfl) :
    PE X (.Call (.Name "isinstance" p) (a :: es) [] pos) (LE G (qCB gIsaU qB)) := q_cb (CallR.or (g.K ▸ CallR.or call_isi call_isiT : CallR X (.builtin "isinstance") (fun xs H Q => rIsi G.K xs H Q ∨ rIsiT G.K xs H Q)) (g.P ▸ g.w ▸ g.K ▸ call_isiD : CallR X (.builtin "isinstance") (rIsiD G.P G.w G.K))) l_isaU hg hm (by decide +kernel) ha (by decide) (by decide) he hpl
end
end CP
namespace CP
open PySem PySem.Spec PyProof.Rows L2
def okA (p : PV) : Prop := tyOk p ∨ ∃ kvs, p = .dic kvs
def okS (p : PV) : Prop := ∀ x, p = .str x → encS.ok x = true
def okI (p : PV) : Prop := okA p ∧ okS p
def okJ (p : PV) : Prop := okA p ∧ ∀ xs, p = .tup xs → xs.length ≤ SZ ∧ ∀ x ∈ xs, okI x
def cpl (p : PV) : Bool := match p with
  | .tup [_, _] => true
  | _ => false
def amgB (ns : List Str) (p : PV) : Bool := match p with
  | .str x => decide (x ∈ ns)
  | _ => false
def jnB (ns : List Str) (p : PV) : Bool := match p with
  | .tup [.str a, .str b] => decide (a ∈ ns ∧ b ∈ ns) && strLt a b
  | _ => false
def edB (es : List Ed2) (p : PV) : Bool := match p with
  | .tup [.str a, .str b] => decide ((a, b) ∈ es)
  | _ => false
def g_is_coupleU (C : Addr) : PG1 := fun ss Q => ∃ p, (okA p ∧ ∀ xs, p = .tup xs → xs.length ≤ SZ) ∧ ss = [.val p] ∧ Q (.sh (.bl (cpl p))) ss
def g_is_amongU (C : Addr) : PG1 := fun ss Q => ∃ v ns p, (encS.oks ns = true ∧ okI p) ∧ isRow v (ns.map .str) ∧ ss = [.val v, .val p] ∧ Q (.sh (.bl (amgB ns p))) ss
def g_joinsU (C : Addr) : PG1 := fun ss Q => ∃ v ns p, (encS.oks ns = true ∧ okJ p) ∧ isRow v (ns.map .str) ∧ ss = [.val v, .val p] ∧ Q (.sh (.bl (jnB ns p))) ss
def g_is_edgeU (C : Addr) : PG1 := fun ss Q => ∃ ns es p, GrOk ns es ∧ okJ p ∧ ss = [.val (pG C ns es), .val p] ∧ Q (.sh (.bl (edB es p))) ss
def q_is_coupleU (C : Addr) : QS := (sRet (qAndV (qCB gIsaU (bCons (qVar 0) (bCons (qC (.ty "tuple")) bNil))) (qCmp gEq (qCB gLenU (bCons (qVar 0) bNil)) (qC (.int (2))))))
def q_is_amongU (C : Addr) : QS := (sRet (qAndV (qCB gIsaU (bCons (qVar 1) (bCons (qC (.ty "str")) bNil))) (qCmp gInQ (qVar 1) (qVar 0))))
def q_joinsU (C : Addr) : QS := (sSeq (sIf (qNot (qTb (qCallK (g_is_coupleU C) (aCons (qVar 1) aNil)))) (sRet (qC (.bl false))) sNil)
  (sSeq (sAsg (qVar 1) (gqTup 2 (gqCons (gqName 2) (gqCons (gqName 3) gqNil))))
  (sRet (qAndV (qCallK (g_is_amongU C) (aCons (qVar 0) (aCons (qVar 2) aNil))) (qAndV (qCallK (g_is_amongU C) (aCons (qVar 0) (aCons (qVar 3) aNil))) (qCmp gLt (qVar 2) (qVar 3)))))))
def q_is_edgeU (C : Addr) : QS := (sRet (qAndV (qCallK (g_joinsU C) (aCons (qUn (gFld C "vertices") (qVar 0)) (aCons (qVar 1) aNil))) (qCmp gInQ (qVar 1) (qUn (gFld C "edges") (qVar 0)))))
end CP
namespace CP
open PySem PySem.Spec PyProof.Rows L2
theorem hq_is_coupleU (C : Addr) : ∀ ss Q, g_is_coupleU C ss Q → q_is_coupleU C (bodyEnds 1 Q) (startE 1 ss) := by
  rintro _ Q ⟨p, ⟨hp, hl⟩, rfl, h⟩
  rcases hp with hp | ⟨kvs, rfl⟩
  · cases p with
    | tup xs =>
      have := hl xs rfl
      conv => whnf
      refine ⟨trivial, by simp, ?_⟩
      rw [isa_tup]
      conv => whnf
      match xs, h with
      | [], h => exact h
      | [a], h => exact h
      | [a, b], h => exact h
      | a :: b :: c :: r, h =>
        rw [show decide (((a :: b :: c :: r).length : Int) = 2) = false from decide_eq_false (by simp only [List.length_cons]; omega)]
        exact h
    | non => (conv => whnf); exact ⟨trivial, by simp, h⟩
    | bl b => (conv => whnf); exact ⟨trivial, by simp, h⟩
    | int b => (conv => whnf); exact ⟨trivial, by simp, h⟩
    | str b => (conv => whnf); exact ⟨trivial, by simp, h⟩
    | lst b => (conv => whnf); exact ⟨trivial, by simp, h⟩
    | _ => exact hp.elim
  · conv => whnf
    exact ⟨by simp, h⟩
theorem hq_is_amongU (C : Addr) : ∀ ss Q, g_is_amongU C ss Q → q_is_amongU C (bodyEnds 2 Q) (startE 2 ss) := by
  rintro _ Q ⟨v, ns, p, ⟨h1, hp, hs⟩, hr, rfl, h⟩
  rcases hp with hp | ⟨kvs, rfl⟩
  · cases p with
    | str x =>
      have h2 := hs x rfl
      conv => whnf
      refine ⟨trivial, by simp, ?_⟩
      rw [isa_str]
      rcases hr with rfl | rfl
      · conv => whnf
        refine ⟨⟨shpS h2, shpSl h1⟩, ?_⟩
        rw [hasS]
        exact h
      · conv => whnf
        refine ⟨⟨shpS h2, shpSs h1⟩, ?_⟩
        rw [hasS]
        exact h
    | non => (conv => whnf); exact ⟨trivial, by simp, h⟩
    | bl b => (conv => whnf); exact ⟨trivial, by simp, h⟩
    | int b => (conv => whnf); exact ⟨trivial, by simp, h⟩
    | tup b => (conv => whnf); exact ⟨trivial, by simp, h⟩
    | lst b => (conv => whnf); exact ⟨trivial, by simp, h⟩
    | _ => exact hp.elim
  · conv => whnf
    exact ⟨by simp, h⟩
theorem amgB_str {ns : List Str} {p : PV} (h : amgB ns p = true) : ∃ x, p = .str x ∧ x ∈ ns := by
  cases p with
  | str x => exact ⟨x, rfl, of_decide_eq_true h⟩
  | _ => exact absurd h (by simp [amgB])
theorem jnB_eq {ns : List Str} {a b : PV} : jnB ns (.tup [a, b]) = (amgB ns a && (amgB ns b && (match a, b with | .str x, .str y => strLt x y | _, _ => false))) := by
  cases a <;> cases b <;> simp only [jnB, amgB, Bool.false_and, Bool.and_false]
  rename_i x y
  by_cases c1 : x ∈ ns <;> by_cases c2 : y ∈ ns <;> simp [c1, c2]
theorem hq_joinsU (C : Addr) : ∀ ss Q, g_joinsU C ss Q → q_joinsU C (bodyEnds 2 Q) (startE 4 ss) := by
  rintro _ Q ⟨v, ns, p, ⟨h1, h2, h3⟩, hr, rfl, h⟩
  conv => whnf
  refine ⟨p, ⟨h2, fun xs e => (h3 xs e).1⟩, rfl, ?_⟩
  by_cases c : ∃ a b, p = .tup [a, b]
  · obtain ⟨a, b, rfl⟩ := c
    have i := (h3 _ rfl).2
    have ia := i a (by simp)
    have ib := i b (by simp)
    rw [jnB_eq] at h
    rw [show cpl (.tup [a, b]) = true from rfl]
    conv => whnf
    refine ⟨v, ns, a, ⟨h1, ia⟩, hr, rfl, ?_⟩
    cases c1 : amgB ns a with
    | false =>
      rw [c1] at h
      exact h
    | true =>
      rw [c1, Bool.true_and] at h
      conv => whnf
      refine ⟨v, ns, b, ⟨h1, ib⟩, hr, rfl, ?_⟩
      cases c2 : amgB ns b with
      | false =>
        rw [c2] at h
        exact h
      | true =>
        rw [c2, Bool.true_and] at h
        obtain ⟨x, rfl, _⟩ := amgB_str c1
        obtain ⟨y, rfl, _⟩ := amgB_str c2
        conv => whnf
        refine ⟨⟨rfl, rfl, encS.alike _ _, encS.nn _, Nat.le_trans (encS.depth x) (by decide)⟩, ?_⟩
        have d := encS.dlt x y
        rw [show dLt (PV.toD (.str x)) (PV.toD (.str y)) = strLt x y from d]
        exact h
  · have e : cpl p = false := by
      unfold cpl
      split
      · rename_i a b
        exact absurd ⟨a, b, rfl⟩ c
      · rfl
    have e2 : jnB ns p = false := by
      unfold jnB
      split
      · rename_i a b
        exact absurd ⟨_, _, rfl⟩ c
      · rfl
    rw [e]
    rw [e2] at h
    exact h
theorem jnB_of {ns : List Str} {p : PV} (h : jnB ns p = true) : ∃ e : Ed2, p = pE e := by
  unfold jnB at h
  split at h
  · exact ⟨(_, _), rfl⟩
  · cases h
theorem hq_is_edgeU (C : Addr) : ∀ ss Q, g_is_edgeU C ss Q → q_is_edgeU C (bodyEnds 2 Q) (startE 2 ss) := by
  rintro _ Q ⟨ns, es, p, hg, hp, rfl, h⟩
  conv => whnf
  refine ⟨rfl, ?_⟩
  conv => whnf
  refine ⟨_, ns, p, ⟨hg.toVsOk.oks, hp⟩, .inr rfl, rfl, ?_⟩
  cases c1 : jnB ns p with
  | false =>
    have : edB es p = false := by
      unfold edB
      split
      · rename_i a b
        refine decide_eq_false fun z => ?_
        have ed := hg.ed _ z
        have : jnB ns (.tup [.str a, .str b]) = true := by
          show (decide (a ∈ ns ∧ b ∈ ns) && strLt a b) = true
          rw [decide_eq_true ⟨ed.l, ed.r⟩]; exact ed.lt
        rw [this] at c1
        cases c1
      · rfl
    rw [this] at h
    exact h
  | true =>
    obtain ⟨e, rfl⟩ := jnB_of c1
    have i := (hp.2 _ rfl).2
    have he : encE.ok e = true := Bool.and_eq_true_iff.mpr ⟨(i (.str e.1) (by simp)).2 _ rfl, (i (.str e.2) (by simp)).2 _ rfl⟩
    conv => whnf
    refine ⟨rfl, ?_⟩
    conv => whnf
    refine ⟨⟨shpE he, shpEs hg.oks⟩, ?_⟩
    rw [hasE]
    exact h
end CP
namespace CP
open PySem PySem.Spec PyProof.Rows L2
section
variable {X : Cx} {e : Expr} {td : TE} {apos cpos p1 pos1 : Pos}
end
end CP
namespace CP
open PySem PySem.Spec PyProof.Rows L2
section
variable {G : Gh} {lv : Nat} {X : Cx} {a : Expr} {qa : QE} {p1 pos1 apos cpos : Pos}
end
end CP
namespace CP
open PySem PySem.Spec PyProof.Rows L2
section
variable {G : Gh} {lv : Nat} {X : Cx} {a b c : Expr} {qA : QAs} {pos : Pos}
end
end CP
namespace CP
open PySem PySem.Spec PyProof.Rows L2
section
variable {G : Gh} {lv : Nat} {X : Cx} {o : Expr} {apos cpos : Pos}
end
end CP
namespace CP
open PySem PySem.Spec PyProof.Rows L2
section
variable {G : Gh} {lv : Nat} {X : Cx} {a b : Expr} {pos : Pos}
end
end CP
namespace CP
open PySem PySem.Spec PyProof.Rows L2
section
variable {G : Gh} {lv : Nat} {X : Cx} {kx vx tg iter : Expr} {ifs : List Expr} {scope : Scope} {own : List (Str × Nat)} {pos spos py : Pos} {y : Str}
variable {qi : QI} {qg : QG} {qt : QT} {qk qv : QE}
end
end CP
namespace CP
open PySem PySem.Spec PyProof.Rows L2
section
variable {G : Gh} {lv : Nat} {X : Cx} {o a : Expr} {es : List Expr} {qa qo : QE} {qA : QAs} {pos p1 apos cpos : Pos} {e : PEnv} {M : Addr → Prop} {σ : L2.St} {H : Hp}
def NoDT (H : Hp) (x : V) : Prop := ∃ (p : Addr) (o : PySem.Obj) (us : List V), x = .ref p ∧ H p = some (.frz o (.tup us)) ∧ o.dict = none
end
end CP
namespace CP
open PySem PySem.Spec PyProof.Rows L2
section
variable {X : Cx}
variable {G : Gh} {lv : Nat} {a : Expr} {es : List Expr} {qB : QBs} {pos p : Pos}
end
end CP
namespace CP
open PySem PySem.Spec PyProof.Rows L2
section
variable {G : Gh} {lv : Nat} {X : Cx} {a : Expr} {es : List Expr} {qB : QBs} {e : PEnv} {M : Addr → Prop} {σ : L2.St} {H : Hp}
end
end CP
namespace CP
open PySem PySem.Spec PyProof.Rows L2
abbrev PGX := List Sl → (XV → Prop) → Prop
structure XEnd (G : En) (H : Hp) (M : Addr → Prop) (vs : List V) (ss : List Sl) (x : XV) (cls : Value) (d : Option Addr) (H' : Hp) (M' : Addr → Prop) : Prop where
  keep : ∀ b o, H b = some o → (∀ i, ¬ LentAt vs ss i b) → H' b = some o
  there : ∀ b, H b ≠ none → H' b ≠ none
  more : ∀ b, M b → (∀ i, ¬ LentAt vs ss i b) → M' b
  trk : ∀ b, M' b → H' b ≠ none
  old : ∀ b, H b ≠ none → M' b → M b
  rep : XRep G H' M' cls d x
def spR (G : En) (g : PGX) : Sp := fun vs H _ E => ∃ ss M K, ArgsOk G H M vs ss ∧ (∀ i j a, LentAt vs ss i a → LentAt vs ss j a → i = j) ∧ (∀ a, M a → H a ≠ none) ∧ g ss K ∧
  ∀ x, K x → ∀ cls d H' M', XEnd G H M vs ss x cls d H' M' → E cls d H'
def spB (G : En) (g : PG1) (gx : PGX) : Sp := fun vs H Q E => spP G g vs H Q E ∨ spR G gx vs H Q E
abbrev GhX (P : Program) (w : World) (K : PySem.W.Frag) (H0 : Hp) (M0 : Addr → Prop) (iol : List (Nat × Addr)) (E : XK) : Gh := { toEn := ⟨P, w, K⟩, H0 := H0, M0 := M0, iol := iol, tmp := [], W := fun cls d _ H => E cls d H }
section
variable {P : Program} {w : World} {K : PySem.W.Frag} {mg : Str → Option Value} {base : Heap} {x : Str} {st : Stmt} {N ps : List Str} {k : Nat} {q : QS} {g : PG1} {gx : PGX}
abbrev BodyR (P : Program) (w : World) (K : PySem.W.Frag) (mg : Str → Option Value) (base : Heap) (N : List Str) (qual : Str) (st : Stmt) (k : Nat) (q : QS) : Prop := ∀ (f : Addr) (H0 : Hp) (M0 : Addr → Prop) (iol : List (Nat × Addr)) (cdv : Value) (A : Around) (outer : List Env) (s : Shared) (H : Hp) (E : XK), Good (GhX P w K H0 M0 iol E) k (cxOf (L2.CX P w) P w K mg base N qual (defScope st) f cdv A outer s H E) →
      PSs (cxOf (L2.CX P w) P w K mg base N qual (defScope st) f cdv A outer s H E) (defBody st) (LS (GhX P w K H0 M0 iol E) q)
def bodyX (K : XV → Prop) : PEnds where
  nx := fun _ => False
  rt := fun _ _ => False
  ex := fun x _ => K x
theorem gh_of {H0 : Hp} {M0 : Addr → Prop} {iol : List (Nat × Addr)} {E : XK} {e : PEnv} {M : Addr → Prop} {σ : L2.St} {H : Hp} (S : StOk (Gh0 P w K H0 M0 iol) e M σ H) : StOk (GhX P w K H0 M0 iol E) e M σ H := ⟨S.len, S.val, S.own, S.io, S.inj, S.iol, S.m0, S.trk, S.prs, S.tmp⟩
theorem bodyR_fn {qual : Str} {f : Addr} {fd : FuncData} (F : Fun K x qual st f fd) (S : FnScope N ps (defScope st)) (arity : ∀ ss Q, gx ss Q → ss.length = ps.length) (hbody : BodyR P w K mg base N qual st k q) (hq : ∀ ss Q, gx ss Q → q (bodyX Q) (startE N.length ss)) :
    FnOk P w K mg base (L2.CX P w) (k + 1) f fd ps (spR ⟨P, w, K⟩ gx) := by
  refine F.okX S (fun vs H Q E h => ?_) (fun cdv A outer s H vs Q E hr h => ?_)
  · obtain ⟨ss, M, K, A, _, _, gk, _⟩ := h
    rw [A.len]; exact arity _ _ gk
  · obtain ⟨ss, M, Kq, A', one, trk, gk, fin⟩ := h
    have ar := arity _ _ gk
    have hl : ss.length ≤ N.length := by
      have := congrArg List.length S.pre
      rw [List.length_take] at this; omega
    refine ⟨_, hbody f H (fun a => M a ∧ ∀ i, ¬ LentAt vs ss i a) (iolOf 0 vs ss) cdv A outer s H E ⟨rfl, rfl, rfl, rfl, S.nd, hr⟩, startE N.length ss, M, bodyX Kq, gh_of (start_ok A' one trk hl), hq ss Kq gk, fun e h => h.elim, fun r e h => h.elim, fun e h => h.elim, fun e h => h.elim, fun x e h σ H' M' cls d S' s' R => ?_⟩
    refine fin x h cls d H' M' ⟨fun b o hb n => S'.prs b o hb fun i hi => n i (iol0.mp hi), s'.there, fun b hb n => S'.m0 b ⟨hb, n⟩, S'.trk, s'.old, R⟩
theorem fn_toX {f : Addr} {fd : FuncData} {sp : Sp} {CX : CXT} (F : FnOk P w K mg base CX0 k f fd ps sp) : FnOk P w K mg base CX k f fd ps sp :=
  ⟨F.len, fun A outer s H args us vs Q E hr he hb hv hs => codeAny_mono (F.run A outer s H args us vs Q E hr he hb hv hs) fun r s' h => by
    cases r with
    | ok c => cases c <;> first | exact h | exact (show False from h).elim
    | error e => exact (show False from h).elim⟩
theorem fn_both {f : Addr} {fd : FuncData} {s1 s2 : Sp} {CX : CXT} (F1 : FnOk P w K mg base CX k f fd ps s1) (F2 : FnOk P w K mg base CX k f fd ps s2) : FnOk P w K mg base CX k f fd ps (fun vs H Q E => s1 vs H Q E ∨ s2 vs H Q E) :=
  ⟨fun vs H Q E h => h.elim (F1.len vs H Q E) (F2.len vs H Q E), fun A outer s H args us vs Q E hr he hb hv hs => hs.elim (fun h => F1.run A outer s H args us vs Q E hr he hb hv h) (fun h => F2.run A outer s H args us vs Q E hr he hb hv h)⟩
def HasX (P : Program) (w : World) (K : PySem.W.Frag) (mg : Str → Option Value) (base : Heap) (x : Str) (ps : List Str) (k : Nat) (g : PG1) (gx : PGX) : Prop :=
  ∃ f fd, mg x = some (.ref f) ∧ PySem.W.keepIn K (.ref f) = true ∧ Binds K fd ps [] ∧ FnOk P w K mg base (L2.CX P w) k f fd ps (spB ⟨P, w, K⟩ g gx) ∧ Out g
theorem def_hasX {qx : QS} (D : DefAt K mg x st) (S : FnScope N ps (defScope st)) (bd : BindsBy x x st ps) (arity : ∀ ss Q, g ss Q → ss.length = ps.length) (arityX : ∀ ss Q, gx ss Q → ss.length = ps.length) (out : Out g) (hbody : BodyOk P w K mg base N x st k q) (hq : ∀ ss Q, g ss Q → q (bodyEnds ps.length Q) (startE N.length ss))
    (hbodyX : BodyR P w K mg base N x st k qx) (hqx : ∀ ss Q, gx ss Q → qx (bodyX Q) (startE N.length ss)) : HasX P w K mg base x ps (k + 1) g gx := by
  obtain ⟨f, fd, F, hm⟩ := D.ex
  exact ⟨f, fd, hm, F.kp, F.binds bd, fn_both (fn_toX (body_fn F S arity hbody hq)) (bodyR_fn F S arityX hbodyX hqx), out⟩
def spF (C : Addr) (f : Str) : Sp := fun vs H Q _ => ∃ (a : Addr) (v : V), vs = [.ref a, v] ∧ H a = some (exo a C none) ∧ ∀ d, H d = none → d ≠ a → Q .non (L2.upd (L2.upd H d (exd d [(f, v)])) a (exo a C (some d)))
theorem spF_of {C a : Addr} {f : Str} {H1 : Hp} {v : V} {R : XK} (ha : H1 a = none) (k : ∀ d H2, H1 d = none → H2 d = some (.xd [(f, v)]) → (∀ b o, H1 b = some o → H2 b = some o) → R (.ref C) (some d) H2) :
    spF C f [.ref a, v] (L2.upd H1 a (exo a C none)) (fun v H2 => v = .non ∧ ∃ (d : Addr) (fs : List (Str × V)), H2 a = some (exo a C (some d)) ∧ H2 d = some (exd d fs) ∧ H1 d = none ∧ R (.ref C) (some d) (L2.upd (del H2 a) d (.xd fs))) (fun _ _ _ => False) := by
  refine ⟨a, v, rfl, upd_same, fun d hd hda => ?_⟩
  have hd' : H1 d = none := by rw [upd_ne hda] at hd; exact hd
  refine ⟨rfl, d, _, upd_same, by rw [upd_ne hda, upd_same], hd', k d _ hd' upd_same fun b o e => ?_⟩
  have hba := ne_of_none e ha
  have hbd := ne_of_none e hd'
  rw [upd_ne hbd, del_ne hba, upd_ne hba, upd_ne hbd, upd_ne hba]; exact e
structure HasE (P : Program) (w : World) (K : PySem.W.Frag) (mg : Str → Option Value) (base : Heap) (x : Str) (C : Addr) (f : Str) : Prop where
  hm : mg x = some (.ref C)
  ox : OexC K C
  xf : XfC K C
  no : PySem.W.findIn K (.ref C) f = some none
  me : PySem.W.exmOne K (.ref C) (.ref C) = some true
  ini : ∃ fI fd, PySem.W.findIn K (.ref C) "__init__" = some (some (.ref fI)) ∧ PySem.W.typeIn K (.ref fI) = some (.type "function") ∧ FnOk P w K mg base CX0 1 fI fd ["self", f] (spF C f) ∧ Binds K fd ["self", f] []
end
section
variable {G : Gh} {lv k : Nat} {X : Cx} {a : Expr} {es : List Expr} {qa : QE} {qA : QAs} {pos p cpos : Pos} {x f : Str} {C : Addr}
def sRaise (C : Addr) (f : Str) (qa : QE) : QS := fun E e => qa e fun r e1 => keep r e1 fun p e2 => E.ex ⟨C, [(f, p)]⟩ e2
theorem s_raise (g : Good G lv X) (tk : Takes X G.W) (h : HasE X.prog X.w X.K X.mg X.base x C f) (hk : 2 ≤ lv) (ha : PE X a (LE G qa)) (hg : Gl X x := by rfl) (hdb : (x == ("__debug__" : Str)) = false := by decide)
    (he : starEach [a] X.env = (false, eval a X.env) :: starEach [] X.env := by rfl) (hpl : (backTo cpos (starEach [] X.env)).any (·.1) = false := by rfl) :
    PS X (.Raise (some (.Call (.Name x p) [a] [] cpos)) none pos) (LS G (sRaise C f qa)) := by
  obtain ⟨fI, fd, h1, h2, h3, h4⟩ := h.ini
  refine PS.imp (ps_raise g.calm tk (pmk_oex h.ox h1 h2 h3 (g.room.mono hk) h4 .nil pass0 hg h.hm (pa_cons ha pa_nil he) hdb he hpl)) fun D σ H ⟨e, M, E, S, kk, fin⟩ => ⟨e, M, _, S, kk, fun r e1 k1 v H1 M1 S1 s1 R => ?_⟩
  obtain ⟨p, e2, M2, k2, S2, s2, R2⟩ := keep_ok S1 R k1
  refine ⟨by show 1 ≤ 1000; decide, fun a' ha' => spF_of (R := fun c dd H' => G.W c dd σ H') ha' fun d H2 n1 n2 n3 => ?_⟩
  have nM : ¬ M2 d := fun z => S2.trk d z n1
  have st : Step H1 M2 H2 M2 := ⟨fun b o q _ => n3 b o q, fun _ _ q => q, fun b q => by
    cases c : H1 b with
    | none => exact absurd c q
    | some o => rw [n3 b o c]; simp⟩
  have S3 : StOk G e2 M2 σ H2 := S2.go st (fun _ q => q) (fun b q => st.there b (S2.trk b q)) (fun b q => by
    cases c : H1 b with
    | none => exact absurd c (S2.trk b q)
    | some o => exact n3 b o c)
  exact fin.ex _ _ k2 σ H2 M2 _ _ S3 ((s1.trans s2).trans st) ⟨rfl, d, _, rfl, n2, nM, rfl, .cons (R2.step st) .nil⟩
end
end CP
namespace CP
open PySem PySem.Spec PyProof.Rows L2
theorem exm_self {K : PySem.W.Frag} {A : Addr} {r : Bool} {cd : ClassData} (b : PySem.W.subIn K (.ref A) (.type "BaseException") = some true) (c : PySem.W.clsIn K A = some cd) (t : PySem.W.typeIn K (.ref A) = some (.type "type")) (s : PySem.W.subIn K (.ref A) (.ref A) = some r) : PySem.W.exmOne K (.ref A) (.ref A) = some r := by
  have b' : (PySem.W.subIn K (.ref A) (.type "BaseException") == some true) = true := by rw [b]; rfl
  have t' : ((PySem.W.clsIn K A).isSome && PySem.W.typeIn K (.ref A) == some (.type "type")) = true := by rw [c, t]; rfl
  have q : PySem.W.exmOne K (.ref A) (.ref A) = if (PySem.W.subIn K (.ref A) (.type "BaseException") == some true) = true then (if ((PySem.W.clsIn K A).isSome && PySem.W.typeIn K (.ref A) == some (.type "type")) = true then PySem.W.subIn K (.ref A) (.ref A) else none) else none := rfl
  rw [q, if_pos b', if_pos t']; exact s
section
variable {G : Gh} {lv k : Nat} {X : Cx} {a : Expr} {es : List Expr} {qA : QAs} {pos pos' p np ep ap cpos rpos rp2 : Pos} {x n f fn : Str} {C Cd : Addr} {i : Nat} {ps : List Str} {g : PG1} {gx : PGX}
theorem x_back {e : PEnv} {M : Addr → Prop} {σ : L2.St} {H H' : Hp} {M' : Addr → Prop} {vs : List V} {ss : List Sl} {y : XV} {cls : Value} {d : Option Addr} (S : StOk G e M σ H) (no : ∀ i b, ¬ LentAt vs ss i b) (z : XEnd G.toEn H M vs ss y cls d H' M') : StOk G e M' σ H' ∧ Step H M H' M' := by
  have st : Step H M H' M' := ⟨fun b o h _ => z.keep b o h fun i => no i b, z.old, z.there⟩
  refine ⟨S.go st (fun b h => z.more b h fun i => no i b) z.trk fun b h => ?_, st⟩
  cases c : H b with
  | none => exact absurd c (S.trk b h)
  | some o => exact z.keep b o c fun i => no i b
theorem xrep_one {G : En} {H : Hp} {M : Addr → Prop} {cls : Value} {d : Option Addr} {C : Addr} {f : Str} {p : PV} (h : XRep G H M cls d ⟨C, [(f, p)]⟩) : cls = .ref C ∧ ∃ dx v, d = some dx ∧ H dx = some (.xd [(f, v)]) ∧ Rep G H M v p := by
  obtain ⟨e, dx, vs, h1, h2, _, h4, h5⟩ := h
  refine ⟨e, dx, ?_⟩
  cases vs with
  | nil => cases h4
  | cons v0 vr =>
    cases vr with
    | cons _ _ => cases h4
    | nil =>
      obtain ⟨f0, v0⟩ := v0
      have e0 : f0 = f := by simpa using h4
      subst e0
      cases h5 with
      | cons r _ => exact ⟨v0, h1, h2, r⟩
end
end CP
namespace CP
open PySem PySem.Spec PyProof.Rows L2
section
variable {G : Gh} {lv : Nat} {X : Cx} {a : Expr} {qa : QE} {p p2 pos : Pos} {e : PEnv} {M : Addr → Prop} {σ : L2.St} {H : Hp} {D : Str} {Cd : Addr}
end
end CP
namespace CP
open PySem PySem.Spec PyProof.Rows L2
section
variable {G : Gh} {lv k : Nat} {X : Cx} {a : Expr} {es : List Expr} {hds : List ExceptHandler} {qA : QAs} {pos pos' p np ep ap cpos rpos rp2 yp : Pos} {x n f fn y : Str} {C : Addr} {i j : Nat} {ps : List Str} {g : PG1} {gx : PGX}
end
end CP
namespace CP
open PySem PySem.Spec PyProof.Rows L2
def rIsXd (K : PySem.W.Frag) (C a : Addr) (cls : Value) (d : Option Addr) : List V → Hp → VK → Prop := fun xs H Q => ∃ (c : V) (u : Value) (b : Bool) (dd : Addr) (fs : List (Str × V)), xs = [.ref a, c] ∧ cls = .ref C ∧ d = some dd ∧ H dd = some (.xd fs) ∧ ClsV c u ∧ PySem.W.kitOne K (.ref C) u = some b ∧ Q (.bl b) H
def rIsXdT (K : PySem.W.Frag) (C a : Addr) (cls : Value) (d : Option Addr) : List V → Hp → VK → Prop := fun xs H Q => ∃ (tp : Addr) (cs : List V) (ws : List Value) (b : Bool) (dd : Addr) (fs : List (Str × V)), xs = [.ref a, .ref tp] ∧ cls = .ref C ∧ d = some dd ∧ H dd = some (.xd fs) ∧ H tp = some (.tup cs) ∧ Paired ClsV cs ws ∧ PySem.W.kitAny K (.ref C) ws = some b ∧ Q (.bl b) H
section
variable {X : Cx} {a C : Addr} {oe : PySem.Obj} {cls : Value} {d : Option Addr} {pn : List (Addr × PySem.Obj)}
theorem caught_at {pins : List (Addr × PySem.Obj)} {σ : L2.St} {H : Hp} {s : Shared} {dd : Addr} {fs : List (Str × V)} (hz : Zc (.ref C) (some dd) oe) (hf : ∃ vs, oe.data = .fields vs) (I : L2.Inv (X.suite a ((a, oe) :: pn)) pins σ H s) (ea : H dd = some (.xd fs)) : ∃ od, PySem.W.InstAt s.heap a oe C (some od) := by
  have got := (I.pin (a, oe) (List.mem_append_left _ List.mem_cons_self)).1
  obtain ⟨vs, hd⟩ := hf
  obtain ⟨mA, hns, _⟩ := (show ObjOk X.prog X.w H s.heap dd (.xd fs) from I.hok dd _ ea)
  obtain ⟨od, ho, _⟩ := lookIn_ns hns
  exact ⟨od, got, hz.1, by unfold PySem.W.notCls; rw [hd], by rw [hz.2]; exact ho⟩
theorem call_isXd (T : XCls X.K C) (hz : Zc cls d oe) (hf : ∃ vs, oe.data = .fields vs) : CallR (X.suite a ((a, oe) :: pn)) (.builtin "isinstance") (rIsXd X.K C a cls d) := by
  intro pins s σ H xs us Q I r ⟨c, u, b, dd, fs, e0, e1, e2, ea, k, e, q⟩
  subst e0 e1 e2
  obtain ⟨u1, u2, rfl, r1, r2⟩ := vals2 r
  have e2 := k.eq r2
  subst e2
  cases (show u1 = Value.ref a from r1)
  obtain ⟨od, J⟩ := caught_at hz hf I ea
  exact PySem.W.kia_one (PySem.W.kitx_exc (od := some od) T.cl T.ga T.gg T.sb T.ca T.sg T.tk T.mo) I.kIn J e (fun z => nomatch z) fun tk => ⟨.bl b, H, I.tok tk, rfl, q⟩
theorem call_isXdT (T : XCls X.K C) (hz : Zc cls d oe) (hf : ∃ vs, oe.data = .fields vs) : CallR (X.suite a ((a, oe) :: pn)) (.builtin "isinstance") (rIsXdT X.K C a cls d) := by
  intro pins s σ H xs us Q I r ⟨tp, cs, ws, b, dd, fs, e0, e1, e2, ea, hT, k, e, q⟩
  subst e0 e1 e2
  obtain ⟨u1, u2, rfl, r1, r2⟩ := vals2 r
  cases (show u2 = Value.ref tp from r2)
  cases (show u1 = Value.ref a from r1)
  obtain ⟨od, J⟩ := caught_at hz hf I ea
  obtain ⟨_, its, rv, ⟨oc, odd, dt, sl⟩, h1, h2, n, h3⟩ := (show ObjOk X.prog X.w H s.heap tp (.tup cs) from I.hok tp _ hT)
  have e3 := ClsV.all k rv
  subst e3
  simp only at h2 h3
  subst h2 h3
  exact PySem.W.kia_tup (PySem.W.kitx_exc (od := some od) T.cl T.ga T.gg T.sb T.ca T.sg T.tk T.mo) I.kIn J h1 e (fun z => nomatch z) fun tk => ⟨.bl b, H, I.tok tk, rfl, q⟩
end
theorem exm_two {K : PySem.W.Frag} {A S : Addr} {r : Bool} {cd : ClassData} (b : PySem.W.subIn K (.ref S) (.type "BaseException") = some true) (c : PySem.W.clsIn K S = some cd) (t : PySem.W.typeIn K (.ref S) = some (.type "type")) (cA : ∃ cd, PySem.W.clsIn K A = some cd) (tA : PySem.W.typeIn K (.ref A) = some (.type "type")) (s : PySem.W.subIn K (.ref A) (.ref S) = some r) : PySem.W.exmOne K (.ref A) (.ref S) = some r := by
  obtain ⟨cdA, cA⟩ := cA
  have b' : (PySem.W.subIn K (.ref S) (.type "BaseException") == some true) = true := by rw [b]; rfl
  have t' : ((PySem.W.clsIn K S).isSome && PySem.W.typeIn K (.ref S) == some (.type "type")) = true := by rw [c, t]; rfl
  have tA' : ((PySem.W.clsIn K A).isSome && PySem.W.typeIn K (.ref A) == some (.type "type")) = true := by rw [cA, tA]; rfl
  first
    | (have q : PySem.W.exmOne K (.ref A) (.ref S) = if (PySem.W.subIn K (.ref S) (.type "BaseException") == some true) = true then (if ((PySem.W.clsIn K S).isSome && PySem.W.typeIn K (.ref S) == some (.type "type")) = true then PySem.W.subIn K (.ref A) (.ref S) else none) else none := rfl
       rw [q, if_pos b', if_pos t']; exact s)
    | (have q : PySem.W.exmOne K (.ref A) (.ref S) = if (PySem.W.subIn K (.ref S) (.type "BaseException") == some true) = true then (if ((PySem.W.clsIn K A).isSome && PySem.W.typeIn K (.ref A) == some (.type "type")) = true then PySem.W.subIn K (.ref A) (.ref S) else none) else none := rfl
       rw [q, if_pos b', if_pos tA']; exact s)
structure SaidE0 (K : PySem.W.Frag) (mg : Str → Option Value) (CE B c1 c2 c3 c4 c5 : Addr) : Prop where
  mi : mg "isinstance" = none
  mB : mg "ParityError" = some (.ref B)
  m1 : mg "NoCarry" = some (.ref c1)
  m2 : mg "NoDrawing" = some (.ref c2)
  m3 : mg "NoGraph" = some (.ref c3)
  m4 : mg "NoOrder" = some (.ref c4)
  m5 : mg "NoRecord" = some (.ref c5)
  te : PySem.W.exmOne K (.ref CE) (.ref B) = some true
  T : XCls K CE
  kE : PySem.W.kitOne K (.ref CE) (.ref CE) = some true
  kO : PySem.W.kitAny K (.ref CE) [.ref c1, .ref c2, .ref c3, .ref c4, .ref c5] = some false
def SaidE (K : PySem.W.Frag) (mg : Str → Option Value) (CE : Addr) : Prop := ∃ B c1 c2 c3 c4 c5, SaidE0 K mg CE B c1 c2 c3 c4 c5
section
variable {G : Gh} {lv k : Nat} {X : Cx} {a : Expr} {es : List Expr} {qA : QAs} {pos pos' p np cpos rpos p1 p2 p3 p4 p5 p6 p7 p8 p9 p10 p11 p12 p13 p14 p15 p16 p17 q1 q2 q3 q4 q5 tp : Pos} {n f fn : Str} {k1 k2 j1 j2 : Nat} {C : Addr} {i : Nat} {ps : List Str} {g : PG1} {gx : PGX}
def sTrySaid (C : Addr) (f : Str) (i : Nat) (g : PG1) (gx : PGX) (qA : QAs) : QS := fun E e => qA e fun ps e1 => (g (ps.map .val) fun r _ => match r with
  | .bor _ => False
  | _ => E.nx e1) ∨ (i < e1.length ∧ gx (ps.map .val) fun x => ∃ p, x = ⟨C, [(f, p)]⟩ ∧ E.rt (.sh (.tup [.str "no edge", p])) e1)
theorem s_trySaid (gd : Good G lv X) (hS : SaidE X.K X.mg C) (hE : HasE X.prog X.w X.K X.mg X.base "NoEdge" C "edge") (h : HasX X.prog X.w X.K X.mg X.base fn ps k g gx) (hk : k ≤ lv) (ha : ∀ pn xe, Good G lv (X.tr pn xe) → PA (X.tr pn xe) (a :: es) (LA G qA)) (hG : G.toEn = ⟨X.prog, X.w, X.K⟩ := by rfl)
    (hs : X.stack = X.env :: X.outer := by rfl) (hf : X.env.frame = some X.env.locals := by rfl) (hi : X.N[i]? = some n := by rfl) (hln : X.env.kindOf n = some .local := by rfl) (hgx : Gl X "ParityError" := by rfl)
    (hgf : Gl X fn := by rfl) (hdf : (fn == ("__debug__" : Str)) = false := by decide) (hst : ∀ pn xe, starEach (a :: es) (X.tr pn xe).env = (false, eval a (X.tr pn xe).env) :: starEach es (X.tr pn xe).env := by intro _ _; rfl) (hpl : ∀ pn xe, (backTo cpos (starEach es (X.tr pn xe).env)).any (·.1) = false := by intro _ _; rfl)
    (hsw : ∀ pn xe, swapsWith (.Call (.Name fn p) (a :: es) [] cpos) none rpos.line (X.tr pn xe).env = pure false := by intro _ _; rfl)
    (hv : ∀ b pn ep, PE (X.suite b pn) (.Name n ep) (tVar i) := by intro _ _ _; exact pv _) (hb : ∀ b pn ep, attributeBase (.Name n ep) "edge" (X.suite b pn).env (eval (.Name n ep) (X.suite b pn).env) = eval (.Name n ep) (X.suite b pn).env := by intro _ _ _; rfl)
    (gi : Gl X "isinstance" := by rfl) (g0 : Gl X "NoEdge" := by rfl) (g1 : Gl X "NoCarry" := by rfl) (g2 : Gl X "NoDrawing" := by rfl) (g3 : Gl X "NoGraph" := by rfl) (g4 : Gl X "NoOrder" := by rfl) (g5 : Gl X "NoRecord" := by rfl) :
    PS X (.Try [.Expr (.Call (.Name fn p) (a :: es) [] cpos) rpos] [.ExceptHandler (some (.Name "ParityError" np)) (some n)
      [.If (.BoolOp .Or [.UnaryOp .Not (.Call (.Name "isinstance" p1) [.Name n p2, .Name "NoEdge" p3] [] p4) p5, .Call (.Name "isinstance" p6) [.Name n p7, .Tuple [.Name "NoCarry" q1, .Name "NoDrawing" q2, .Name "NoGraph" q3, .Name "NoOrder" q4, .Name "NoRecord" q5] k1 tp] [] p8] p9) [.Return (some (.Constant (.str "another error") j1 p10)) p11] [] p12,
       .Return (some (.Tuple [.Constant (.str "no edge") j2 p13, .Attribute (.Name n p14) "edge" p15] k2 p16)) p17] pos'] [] [] pos) (LS G (sTrySaid C "edge" i g gx qA)) := by
  obtain ⟨fa, fd, hm, kp, hbd, F, hout⟩ := h
  obtain ⟨B, c1, c2, c3, c4, c5, S0⟩ := hS
  rw [← hG] at F
  refine PS.imp (ps_try_as (i := i) (n := n) hs hf gd.nd hi hln ⟨hgx, by decide, .inl S0.mB⟩ takes0
    (fun W pn xe tk _ => pss_one (ps_expr (pe_callS (E := WE W) F (show Room k (X.tr pn xe).A from gd.room.mono hk) hgf hm kp hbd (fun σ => passAt tk σ) (ha pn xe ⟨gd.P, gd.w, gd.K, gd.calm, gd.nd, gd.room⟩) hdf (hst pn xe) (hpl pn xe)) (hsw pn xe)))
    (fun b oe cls d pn hz hfl => pss_cons (ps_if (pw_or (pt_not (pt_val (pe_callB (call_isXd S0.T hz hfl) gi S0.mi (by decide +kernel) (pa_cons (hv b ((b, oe) :: pn) _) (pa_cons (pe_glob (v := .ref C) g0 hE.hm rfl) pa_nil))))) (pw_or1 (pt_val (pe_callB (call_isXdT S0.T hz hfl) gi S0.mi (by decide +kernel) (pa_cons (hv b ((b, oe) :: pn) _) (pa_cons (pe_tup (pa_cons (pe_glob (v := .ref c1) g1 S0.m1 rfl) (pa_cons (pe_glob (v := .ref c2) g2 S0.m2 rfl) (pa_cons (pe_glob (v := .ref c3) g3 S0.m3 rfl) (pa_cons (pe_glob (v := .ref c4) g4 S0.m4 rfl) (pa_cons (pe_glob (v := .ref c5) g5 S0.m5 rfl) pa_nil)))))) pa_nil)))))).pt (pss_one (ps_ret pe_str)) pss_nil)
      (pss_one (ps_ret (pe_tup (pa_cons pe_str (pa_cons (pe_xf hE.xf hE.no hz hfl (hv b ((b, oe) :: pn) _) (hb b ((b, oe) :: pn) _)) pa_nil))))))) fun D σ H ⟨e, M, E, S, q, fin⟩ => ⟨e, M, _, S, q, fun ps e1 k1 vs H1 M1 S1 s1 R => ?_⟩
  have A : AvOk G e1 M1 σ H1 vs (keptAs ps) := avOk_kept R
  have hs := argSs_kept e1 ps
  have nd : (lents (keptAs ps)).Nodup := by rw [lents_kept]; exact List.nodup_nil
  obtain ⟨A', _, lent⟩ := args_ok S1 A hs
  have no : ∀ i b, ¬ LentAt vs (ps.map Sl.val) i b := fun i b ⟨_, q, h⟩ => by
    rw [List.getElem?_map] at h
    cases c : ps[i]? with
    | none => rw [c] at h; cases h
    | some z => rw [c] at h; cases h
  rcases k1 with k1 | ⟨hlt, k1⟩
  · refine .inl ⟨_, M1, _, A', fun i j b hi _ => absurd hi (no i b), S1.trk, hout _ _ k1, fun r ss' ⟨kr, hl⟩ v H' M' Ee => ?_⟩
    obtain ⟨S5, s5, R5⟩ := call_back S1 A nd hs Ee hl
    rw [putB_kept] at S5 R5
    cases r with
    | bor i => exact kr.elim
    | sh pr => exact fin.nx _ kr σ H' M' S5 (s1.trans s5)
    | fr pr => exact fin.nx _ kr σ H' M' S5 (s1.trans s5)
  · refine .inr ⟨_, M1, _, A', fun i j b hi _ => absurd hi (no i b), S1.trk, k1, ?_⟩
    rintro y ⟨pp, rfl, kr⟩ cls d H' M' z
    obtain ⟨S5, s5⟩ := x_back S1 no z
    obtain ⟨rfl, dx, v, rfl, hx, rv⟩ := xrep_one z.rep
    have li : i < σ.length := by rw [← S1.len]; exact hlt
    refine ⟨true, S0.te, fun _ b hb => ?_, fun q => nomatch q⟩
    have gi : (σ.set i (some (V.ref b)))[i]? = some (some (.ref b)) := List.getElem?_set_self li
    refine ⟨.ref b, gi, ?_⟩
    refine ⟨.ref C, .ref C, true, dx, _, rfl, rfl, rfl, hx, .own _, S0.kE, true, rfl, ?_⟩
    conv => whnf
    refine ⟨.ref b, gi, ?_⟩
    refine ⟨by show 5 ≤ sizeLine; decide, fun tp htp => ?_⟩
    have hx2 : (L2.upd H' tp (.tup [.ref c1, .ref c2, .ref c3, .ref c4, .ref c5])) dx = some (.xd [("edge", v)]) := by rw [upd_ne (ne_of_none hx htp)]; exact hx
    refine ⟨tp, _, _, false, dx, _, rfl, rfl, rfl, hx2, upd_same, .cons (.own _) (.cons (.own _) (.cons (.own _) (.cons (.own _) (.cons (.own _) .nil)))), S0.kO, false, rfl, ?_⟩
    have S6 := S5.new (o := .tup [.ref c1, .ref c2, .ref c3, .ref c4, .ref c5]) htp
    have s6 : Step H' M' (L2.upd H' tp (.tup [.ref c1, .ref c2, .ref c3, .ref c4, .ref c5])) M' := step_new htp
    conv => whnf
    refine ⟨.ref b, gi, rfl, rfl, dx, _, v, rfl, hx2, by simp, ?_⟩
    refine ⟨by show 2 ≤ sizeLine; decide, fun T hT => ?_⟩
    have S7 := S6.new (o := .tup [.str "no edge", v]) hT
    have s7 : Step (L2.upd H' tp (.tup [.ref c1, .ref c2, .ref c3, .ref c4, .ref c5])) M' (L2.upd (L2.upd H' tp (.tup [.ref c1, .ref c2, .ref c3, .ref c4, .ref c5])) T (.tup [.str "no edge", v])) M' := step_new hT
    exact fin.rt _ _ kr σ _ _ M' S7 (((s1.trans s5).trans s6).trans s7) (.tup ⟨.inl upd_same, fun z => S6.trk T z hT⟩ (.cons (.str _) (.cons ((rv.step s6).step s7) .nil)))
end
end CP
namespace CP
open PySem PySem.Spec PyProof.Rows L2
section
variable {P : Program} {w : World} {K : PySem.W.Frag} {mg : Str → Option Value} {base : Heap} {st : Stmt} {N : List Str} {k : Nat} {q : QS} {g : PG1}
end
section
variable {G : Gh} {lv k : Nat} {X : Cx} {a b : Expr} {qa qb : QE} {pos : Pos} {C : Addr} {g : PG1}
end
end CP
namespace PySem.AutoSeq1
end PySem.AutoSeq1
namespace CP
open PySem PySem.Spec PyProof.Rows L2
section
variable {G : Gh} {lv : Nat} {X : Cx} {o a : Expr} {qA : QAs} {apos cpos : Pos}
end
end CP
namespace CP
open PySem PySem.Spec PyProof.Rows L2
section
variable {G : Gh} {lv : Nat} {X : Cx} {o a b : Expr} {apos cpos : Pos} {qa qb : QE}
end
end CP
namespace CP
open PySem PySem.Spec PyProof.Rows L2 StX
section
variable {G : Gh} {lv : Nat} {X : Cx} {a : Expr} {es : List Expr} {qa : QE} {qr : QAs} {p : Pos}
end
end CP
namespace CP
open PySem PySem.Spec PyProof.Rows L2
theorem srt2 {a b : Int} (n : a ≠ b) : encI.srtd [a, b] = if a < b then [a, b] else [b, a] := by
  have nd : ([a, b] : List Int).Nodup := by simp [n]
  split
  · rename_i c
    exact encI.srtd_of_asc (List.pairwise_cons.mpr ⟨fun x hx => by rw [List.mem_singleton] at hx; subst hx; exact decide_eq_true c, List.pairwise_singleton _ _⟩)
  · rename_i c
    refine encI.asc_unique ((encI.srtd_perm _).trans (List.Perm.swap b a [])) (encI.srtd_asc nd) ?_
    exact List.pairwise_cons.mpr ⟨fun x hx => by rw [List.mem_singleton] at hx; subst hx; exact decide_eq_true (by omega), List.pairwise_singleton _ _⟩
end CP
namespace CP
open PySem PySem.Spec PyProof.Rows L2
abbrev Src := Int × Int × Int
def srcP (s : Src) : PV := .lst [.int s.1, .int s.2.1, .int s.2.2]
def g__law_cell_at (C : Addr) : PG1 := fun ss Q => ∃ (xs : List Int) (k : Nat), ss = [.val (.scr (xs.map .int)), .val (.int k)] ∧ ∀ c : Int, Q (.sh (.int c)) ss
def g__law_source_of (C : Addr) : PG1 := fun ss Q => ∃ c : Int, ss = [.val (.int c)] ∧ ∀ (s : Src) (c' : Int), Q (.fr (srcP s)) [.val (.int c')]
def g__law_next (C : Addr) : PG1 := fun ss Q => ∃ (s : Src) (m : Nat), (0 < m ∧ m < 1000000) ∧ ss = [.io (srcP s), .val (.int m)] ∧ ∀ (n : Nat) (s' : Src), n < m → Q (.sh (.int n)) [.io (srcP s'), .val (.int m)]
def g__law_one (C : Addr) : PG1 := fun ss Q => ∃ (s : Src) (xs : List PV), (xs ≠ [] ∧ xs.length < 100000) ∧ ss = [.io (srcP s), .val (.lst xs)] ∧ ∀ (x : PV) (s' : Src), x ∈ xs → Q (.sh x) [.io (srcP s'), .val (.lst xs)]
def g__law_mixed (C : Addr) : PG1 := fun ss Q => ∃ (s : Src) (xs : List PV), (Shp (.lst xs) ∧ xs.length < 100000) ∧ ss = [.io (srcP s), .val (.lst xs)] ∧ ∀ (ys : List PV) (s' : Src), ys.Perm xs → Q (.fr (.lst ys)) [.io (srcP s'), .val (.lst xs)]
def eight : List Str := ["a", "ab", "b", "x", "zzzzzzzz", "node", "k", "c"]
def g_law (C : Addr) : PG1 := fun ss Q => ∃ xs : List Int, xs.length ≤ 63 ∧ ss = [.val (.scr (xs.map .int))] ∧ Q (.sh (.bl true)) ss
end CP
namespace CP
open PySem PySem.Spec PyProof.Rows L2
def q__law_cell_at (C : Addr) : QS := (sSeq (sIf (qTst gLt (qVar 1) (qCB gLenU (bCons (qVar 0) bNil))) (sRet (qIxU (qVar 0) (qVar 1))) sNil)
  (sRet (qC (.int (0)))))
def q__law_source_of (C : Addr) : QS := (sSeq (sSet 0 (qIf (qTst gGe (qVar 0) (qC (.int (0)))) (qVar 0) (qSub (qSub (qC (.int (0))) (qMul (qC (.int (3))) (qVar 0))) (qC (.int (1))))))
  (sRet (qLst (aCons (qMul (qVar 0) (qCB gIntC (bCons (qCmp gGe (qVar 0) (qPow (qC (.int (10))) (qC (.int (18))))) bNil))) (aCons (qMod (qVar 0) (qC (.int (2147483647)))) (aCons (qC (.int (0))) aNil))))))
def q__law_next (C : Addr) : QS := (sSeq (sIf (qTst gGt (qIxU (qVar 0) (qC (.int (0)))) (qC (.int (0)))) (sSeq (sSet 2 (qMod (qIxU (qVar 0) (qC (.int (0)))) (qVar 1)))
  (sSeq (sSetU 0 (qDiv (qIxU (qVar 0) (qC (.int (0)))) (qVar 1)) (qC (.int (0))))
  (sRet (qVar 2)))) sNil)
  (sSeq (sSetU 0 (qAdd (qIxU (qVar 0) (qC (.int (2)))) (qC (.int (1)))) (qC (.int (2))))
  (sSeq (sSet 3 (qC (.int (2147483647))))
  (sSeq (sSet 4 (qMod (qAdd (qAdd (qIxU (qVar 0) (qC (.int (1)))) (qMul (qC (.int (104729))) (qIxU (qVar 0) (qC (.int (2)))))) (qC (.int (7919)))) (qVar 3)))
  (sSeq (sSet 4 (qMod (qMul (qVar 4) (qC (.int (48271)))) (qVar 3)))
  (sSeq (sSet 4 (qMod (qMul (qVar 4) (qAdd (qDiv (qVar 4) (qC (.int (1009)))) (qC (.int (69621))))) (qVar 3)))
  (sSeq (sSet 4 (qMod (qMul (qVar 4) (qAdd (qDiv (qVar 4) (qC (.int (2003)))) (qC (.int (40692))))) (qC (.int (2147483399)))))
  (sRet (qMod (qDiv (qVar 4) (qC (.int (7)))) (qVar 1))))))))))
def q__law_one (C : Addr) : QS := (sRet (qIxU (qVar 1) (qCall (g__law_next C) (lLendM 0 (lKeep (qCB gLenU (bCons (qVar 1) bNil)) lNil)))))
def q__law_mixed (C : Addr) : QS := (sSeq (sSet 2 (qCB gListU (bCons (qVar 1) bNil)))
  (sSeq (sSet 3 (qLst aNil))
  (sSeq (sWhile (qTst gNe (qVar 2) (qLst aNil)) (sExpr (qLm 3 (aCons (qMu 2 (aCons (qCall (g__law_next C) (lLendM 0 (lKeep (qCB gLenU (bCons (qVar 2) bNil)) lNil))) aNil) gPopU) aNil) gAppend)))
  (sRet (qVar 3)))))
end CP
namespace CP
open PySem PySem.Spec PyProof.Rows L2
theorem dec_any {p : Prop} {i : Decidable p} {A : ¬ p → Prop} {B : p → Prop} (hp : ∀ h, B h) (hn : ∀ h, A h) : @Decidable.rec p (fun _ => Prop) A B i := by
  cases i with
  | isTrue h => exact hp h
  | isFalse h => exact hn h
theorem ixN_natQ {n j : Nat} (hj : j < n) : ixN n (j : Int) = some j := by
  unfold ixN
  rw [if_pos (by omega), if_pos (by omega)]
  simp
theorem modB (x : Int) : -(2 ^ 64) < x % 2147483647 ∧ x % 2147483647 < 2 ^ 64 := by
  have h1 := Int.emod_nonneg x (show (2147483647 : Int) ≠ 0 by decide)
  have h2 := Int.emod_lt_of_pos x (show (0 : Int) < 2147483647 by decide)
  omega
theorem hq__law_cell_at (C : Addr) : ∀ ss Q, g__law_cell_at C ss Q → q__law_cell_at C (bodyEnds 2 Q) (startE 2 ss) := by
  rintro _ Q ⟨xs, k, rfl, h⟩
  by_cases c : k < xs.length
  · conv => whnf
    refine dec_any (fun _ => ?_) (fun z => absurd (decide_eq_true (by rw [List.length_map]; omega)) z)
    conv => whnf
    have : atI (xs.map PV.int) (k : Int) = some (.int xs[k]) := by
      unfold atI
      rw [ixN_natQ (by rw [List.length_map]; exact c)]
      show (xs.map PV.int)[k]? = _
      rw [List.getElem?_map, List.getElem?_eq_getElem c]; rfl
    rw [this]
    exact h _
  · conv => whnf
    refine dec_any (fun z => absurd (of_decide_eq_true z) (by rw [List.length_map]; omega)) (fun _ => ?_)
    exact h 0
theorem hq__law_source_of (C : Addr) : ∀ ss Q, g__law_source_of C ss Q → q__law_source_of C (bodyEnds 1 Q) (startE 1 ss) := by
  rintro _ Q ⟨c, rfl, h⟩
  have tail : ∀ c2 : Int, sRet (qLst (aCons (qMul (qVar 0) (qCB gIntC (bCons (qCmp gGe (qVar 0) (qPow (qC (.int (10))) (qC (.int (18))))) bNil))) (aCons (qMod (qVar 0) (qC (.int (2147483647)))) (aCons (qC (.int (0))) aNil)))) (bodyEnds 1 Q) [.val (.int c2)] := by
    intro c2
    conv => whnf
    refine ⟨⟨by decide, by decide, by decide⟩, ?_⟩
    conv => whnf
    refine ⟨.inr ?_, ?_⟩
    · split <;> exact ⟨by decide, by decide⟩
    conv => whnf
    refine ⟨(by decide : (0 : Int) < 2147483647), ?_⟩
    conv => whnf
    refine ⟨Nat.le_of_ble_eq_true rfl, ?_⟩
    conv => whnf
    exact h (_, _, _) c2
  conv => whnf
  refine dec_any (fun _ => tail _) (fun _ => ?_)
  conv => whnf
  refine ⟨.inl ⟨by decide, by decide⟩, ?_⟩
  conv => whnf
  refine ⟨trivial, ?_⟩
  conv => whnf
  refine ⟨trivial, ?_⟩
  exact tail _
theorem hq__law_next (C : Addr) : ∀ ss Q, g__law_next C ss Q → q__law_next C (bodyEnds 2 Q) (startE 5 ss) := by
  rintro _ Q ⟨⟨a, b, c⟩, m, ⟨m0, m1⟩, rfl, h⟩
  have fin : ∀ (i : Int) (s : Src), Q (.sh (.int (i % (m : Int)))) [.io (srcP s), .val (.int m)] := fun i s => by
    have h1 := Int.emod_nonneg i (show (m : Int) ≠ 0 by omega)
    have h2 := Int.emod_lt_of_pos i (show (0 : Int) < m by omega)
    have e : i % (m : Int) = ((i % (m : Int)).toNat : Int) := by omega
    rw [e]
    exact h _ s (by omega)
  conv => whnf
  refine dec_any (fun _ => ?_) (fun _ => ?_)
  · conv => whnf
    refine ⟨(by show (0 : Int) < m; omega), ?_⟩
    conv => whnf
    refine ⟨(by show (0 : Int) < m ∧ (m : Int) < 1073741824; omega), ?_⟩
    conv => whnf
    refine ⟨rfl, ?_⟩
    conv => whnf
    refine ⟨0, rfl, ?_⟩
    exact fin _ (_, _, _)
  · conv => whnf
    refine ⟨rfl, ?_⟩
    conv => whnf
    refine ⟨2, rfl, ?_⟩
    conv => whnf
    refine ⟨.inl ⟨by decide, by decide⟩, ?_⟩
    conv => whnf
    refine ⟨(by decide : (0 : Int) < 2147483647), ?_⟩
    conv => whnf
    refine ⟨.inr ⟨by decide, by decide⟩, ?_⟩
    conv => whnf
    refine ⟨(by decide : (0 : Int) < 2147483647), ?_⟩
    conv => whnf
    refine ⟨(by decide : (0 : Int) < 1009 ∧ (1009 : Int) < 1073741824), ?_⟩
    conv => whnf
    refine ⟨.inl (modB _), ?_⟩
    conv => whnf
    refine ⟨(by decide : (0 : Int) < 2147483647), ?_⟩
    conv => whnf
    refine ⟨(by decide : (0 : Int) < 2003 ∧ (2003 : Int) < 1073741824), ?_⟩
    conv => whnf
    refine ⟨.inl (modB _), ?_⟩
    conv => whnf
    refine ⟨(by decide : (0 : Int) < 2147483399), ?_⟩
    conv => whnf
    refine ⟨(by decide : (0 : Int) < 7 ∧ (7 : Int) < 1073741824), ?_⟩
    conv => whnf
    refine ⟨(by show (0 : Int) < m; omega), ?_⟩
    exact fin _ (a, b, c + 1)
end CP
namespace CP
open PySem PySem.Spec PyProof.Rows L2
theorem shp_iff (xs : List PV) : Shp (.lst xs) ↔ ∀ x ∈ xs, PV.isD x = true ∧ (PV.toD x).canLay0 = true ∧ (PV.toD x).depth ≤ 63 := by
  unfold Shp SeqAt.shaped
  rw [PV.isD, isDs_all]
  have e : PV.toD (.lst xs) = .list (xs.map PV.toD) := by rw [PV.toD, toDs_map]
  rw [e, Bool.and_eq_true_iff, List.all_eq_true, decide_eq_true_iff]
  simp only [PyData.canLay0, PyData.depth]
  have k1 : ∀ ys : List PyData, PyData.canLayAll0 ys = true ↔ ∀ y ∈ ys, y.canLay0 = true := fun ys => by
    induction ys with
    | nil => simp [PyData.canLayAll0]
    | cons y ys ih => simp [PyData.canLayAll0, ih]
  have k2 : ∀ (ys : List PyData), PyData.depthAll ys + 1 ≤ 64 ↔ ∀ y ∈ ys, y.depth ≤ 63 := fun ys => by
    induction ys with
    | nil => simp [PyData.depthAll]
    | cons y ys ih =>
      rw [PyData.depthAll, List.forall_mem_cons, ← ih]; omega
  rw [k1, k2]
  simp only [List.mem_map, forall_exists_index, and_imp, forall_apply_eq_imp_iff₂]
  exact ⟨fun ⟨a, b, c⟩ x hx => ⟨a x hx, b x hx, c x hx⟩, fun h => ⟨fun x hx => (h x hx).1, fun x hx => (h x hx).2.1, fun x hx => (h x hx).2.2⟩⟩
theorem shp_mono {xs ys : List PV} (h : Shp (.lst xs)) (s : ∀ y ∈ ys, y ∈ xs) : Shp (.lst ys) := (shp_iff ys).mpr fun y hy => (shp_iff xs).mp h y (s y hy)
theorem shp_nil : Shp (.lst []) := (shp_iff []).mpr fun x hx => nomatch hx
theorem eqv_nil (xs : List PV) : PyData.eqv (PV.toD (.lst xs)) (PV.toD (.lst [])) = decide (xs = []) := by
  cases xs with
  | nil => simp [PV.toD, PV.toDs, PyData.eqv, PyData.eqvAll]
  | cons x xs => simp [PV.toD, PV.toDs, PyData.eqv, PyData.eqvAll]
theorem at_nat {xs : List PV} {n : Nat} (h : n < xs.length) : atI xs (n : Int) = some xs[n] := by
  unfold atI
  rw [ixN_natQ h]
  show xs[n]? = _
  rw [List.getElem?_eq_getElem h]
theorem nd1 (i : Nat) : [i].Nodup := by simp
theorem hq__law_one (C : Addr) : ∀ ss Q, g__law_one C ss Q → q__law_one C (bodyEnds 2 Q) (startE 2 ss) := by
  rintro _ Q ⟨s, xs, ⟨hx, few⟩, rfl, h⟩
  have pos : 0 < xs.length := List.length_pos_iff.mpr hx
  conv => whnf
  refine ⟨rfl, ?_⟩
  conv => whnf
  refine ⟨nd1 0, ?_⟩
  conv => whnf
  refine ⟨s, xs.length, ⟨pos, by omega⟩, rfl, fun n s' hn => ?_⟩
  conv => whnf
  rw [at_nat hn]
  exact h _ s' (List.getElem_mem hn)
def muLst (i : Nat) (e : PEnv) : Nat := match e[i]? with
  | some (.own (.lst l)) => l.length
  | _ => 0
theorem hq__law_mixed (C : Addr) : ∀ ss Q, g__law_mixed C ss Q → q__law_mixed C (bodyEnds 2 Q) (startE 4 ss) := by
  rintro _ Q ⟨s, xs, ⟨hx, few⟩, rfl, h⟩
  conv => whnf
  refine ⟨Nat.le_of_ble_eq_true rfl, ?_⟩
  conv => whnf
  refine ⟨fun e => ∃ s l f, e = [.io (srcP s), .val (.lst xs), .own (.lst l), .own (.lst f)] ∧ (f ++ l).Perm xs, muLst 2, ⟨s, xs, [], rfl, by simp⟩, ?_⟩
  rintro _ ⟨s, l, f, rfl, pm⟩
  have ll := pm.length_eq
  rw [List.length_append] at ll
  conv => whnf
  refine ⟨Nat.le_of_ble_eq_true rfl, ?_⟩
  conv => whnf
  refine ⟨shp_mono hx fun y hy => pm.mem_iff.mp (List.mem_append_right _ hy), shp_nil, ?_⟩
  rw [eqv_nil]
  by_cases c : l = []
  · subst c
    rw [show decide (([] : List PV) = []) = true from rfl]
    exact h f s (by simpa using pm)
  · rw [decide_eq_false c]
    have pos : 0 < l.length := List.length_pos_iff.mpr c
    conv => whnf
    refine ⟨rfl, ?_⟩
    conv => whnf
    conv => whnf
    refine ⟨rfl, ?_⟩
    conv => whnf
    refine ⟨nd1 0, ?_⟩
    conv => whnf
    refine ⟨s, l.length, ⟨pos, by omega⟩, rfl, fun n s' hn => ?_⟩
    conv => whnf
    refine ⟨⟨by omega, by omega⟩, n, l[n], ixN_natQ hn, List.getElem?_eq_getElem hn, ?_⟩
    conv => whnf
    refine ⟨by unfold SZ; omega, ?_⟩
    have ln : (l.eraseIdx n).length = l.length - 1 := List.length_eraseIdx_of_lt hn
    refine ⟨⟨s', l.eraseIdx n, f ++ [l[n]], rfl, ?_⟩, ?_⟩
    · have p1 : (l[n] :: l.eraseIdx n).Perm l := erase_perm l n _ (List.getElem?_eq_getElem hn)
      have p2 : (f ++ [l[n]] ++ l.eraseIdx n).Perm (f ++ l) := by
        rw [List.append_assoc]
        exact List.Perm.append_left f p1
      exact p2.trans pm
    · show (l.eraseIdx n).length < l.length
      omega
end CP
namespace CP
open PySem PySem.Spec PyProof.Rows L2
end CP
namespace CP
open PySem PySem.Spec PyProof.Rows L2
theorem sum_cast {α : Type} (f : α → Nat) (r : List α) : (r.map fun p => ((f p : Nat) : Int)).sum = (((r.map f).sum : Nat) : Int) := by
  induction r with
  | nil => rfl
  | cons x r ih => rw [List.map_cons, List.sum_cons, ih, List.map_cons, List.sum_cons]; omega
theorem GrIn.srt {ns : List Str} {es : List Ed2} (h : GrIn ns es) : GrOk ns (encE.srtd es) := ⟨⟨h.toVsOk, (encE.srtd_perm es).nodup_iff.mpr h.end_, by rw [encE.srtd_len]; exact h.e18, fun e he => h.ed e ((encE.srtd_perm es).mem_iff.mp he)⟩, encE.srtd_asc h.end_⟩
end CP
namespace CP
open PySem PySem.Spec PyProof.Rows L2
theorem cut_drop' {α : Type} (f : α → PV) (xs : List α) (n : Nat) : cutP (xs.map f) (some (n : Int)) none = (xs.drop n).map f := by
  by_cases h : n ≤ xs.length
  · exact cut_drop f xs n h
  · unfold cutP
    have e1 : HT.sIx (xs.map f).length 0 (some (n : Int)) = xs.length := by rw [HT.sIx_nat, List.length_map]; omega
    rw [e1, List.drop_eq_nil_of_le (by rw [List.length_map]; exact Nat.le_refl _), List.drop_eq_nil_of_le (by omega)]
    simp
end CP
namespace CP
open PySem PySem.Spec PyProof.Rows L2
theorem cpar_dot {P r : List Pr2} (nd : P.Nodup) (nr : r.Nodup) (sub : ∀ p ∈ r, p ∈ P) (w : List Pr2) : cpar r w = (dot (nmf (fun p => decide (p ∈ r)) P) (nmf (fun p => decide (p ∈ w)) P)).toNat := by
  unfold dot cpar
  rw [nmf_and, par_nmf]
  have e : (r.filter fun p => decide (p ∈ w)).length = P.countP fun p => decide (p ∈ r) && decide (p ∈ w) := by
    rw [List.countP_eq_length_filter]
    refine List.Perm.length_eq ((List.perm_ext_iff_of_nodup (nr.filter _) (nd.filter _)).mpr fun p => ?_)
    simp only [List.mem_filter, Bool.and_eq_true, decide_eq_true_eq]
    exact ⟨fun ⟨a, b⟩ => ⟨sub p a, a, b⟩, fun ⟨_, a, b⟩ => ⟨a, b⟩⟩
  rw [e]
  generalize P.countP _ = n
  have : n % 2 = 0 ∨ n % 2 = 1 := by omega
  rcases this with h | h <;> rw [h] <;> rfl
end CP
namespace CP
open PySem PySem.Spec PyProof.Rows L2
def allN (ns todo : List Str) : List Ed2 := todo.flatMap fun a => (ns.filter (strLt a)).map fun b => (a, b)
theorem allN_mem {ns todo : List Str} {e : Ed2} : e ∈ allN ns todo ↔ e.1 ∈ todo ∧ e.2 ∈ ns ∧ strLt e.1 e.2 = true := by
  unfold allN
  constructor
  · intro h
    obtain ⟨a, ha, h⟩ := List.mem_flatMap.mp h
    obtain ⟨b, hb, rfl⟩ := List.mem_map.mp h
    obtain ⟨h1, h2⟩ := List.mem_filter.mp hb
    exact ⟨ha, h1, h2⟩
  · rintro ⟨h1, h2, h3⟩
    exact List.mem_flatMap.mpr ⟨e.1, h1, List.mem_map.mpr ⟨e.2, List.mem_filter.mpr ⟨h2, h3⟩, rfl⟩⟩
theorem allN_nd {ns : List Str} (nd : ns.Nodup) : ∀ {todo : List Str}, todo.Nodup → (allN ns todo).Nodup
  | [], _ => List.nodup_nil
  | a :: todo, h => by
    obtain ⟨h1, h2⟩ := List.nodup_cons.mp h
    show ((ns.filter (strLt a)).map (fun b => (a, b)) ++ allN ns todo).Nodup
    refine List.nodup_append.mpr ⟨nodup_map (fun x y e => congrArg (·.2) e) (nd.filter _), allN_nd nd h2, fun x hx y hy e => ?_⟩
    subst e
    obtain ⟨b, _, rfl⟩ := List.mem_map.mp hx
    exact h1 (allN_mem.mp hy).1
theorem allN_len (ns : List Str) : ∀ todo : List Str, (allN ns todo).length ≤ todo.length * ns.length
  | [] => by simp [allN]
  | a :: todo => by
    show ((ns.filter (strLt a)).map (fun b => (a, b)) ++ allN ns todo).length ≤ _
    have := List.length_filter_le (strLt a) ns
    have := allN_len ns todo
    rw [List.length_append, List.length_map, List.length_cons, Nat.add_mul]
    omega
theorem eight_nd : eight.Nodup := by decide +kernel
theorem eight_nm : ∀ x ∈ eight, nameB x = true := by decide +kernel
theorem shpLs {xs : List Ed2} (h : encE.oks xs = true) : Shp (.lst (xs.map pE)) := encE.shpL h
end CP
namespace CP
open PySem PySem.Spec PyProof.Rows L2
variable {ns : List Str} {es : List Ed2} {r c w : List Pr2}
theorem cpar_num (hg : GrOk ns es) (hr : RecOk es r) (w : List Pr2) : cpar r w = (dot (num es r) (num es w)).toNat := cpar_dot (prs_nd hg.asc) hr.nd hr.sub w
theorem sub_ok (hg : GrOk ns es) (h : r.Sublist (prs es)) : RecOk es r := ⟨h.nodup (prs_nd hg.asc), fun p hp => h.subset hp⟩
theorem isWit_iff (hg : GrOk ns es) (hw : RecOk es w) : isWit ns es w = true ↔ ∀ c ∈ everyC ns es, dot (num es w) (num es (flips es c)) = false := by
  unfold isWit
  rw [List.all_eq_true]
  refine forall_congr' fun c => forall_congr' fun hc => ?_
  rw [decide_eq_true_iff, cpar_num hg hw]
  cases dot (num es w) (num es (flips es c)) <;> decide
end CP
namespace CP
open PySem PySem.Spec PyProof.Rows L2
end CP
namespace CP
open PySem PySem.Spec PyProof.Rows L2
end CP
namespace CP
open PySem PySem.Spec PyProof.Rows L2
theorem Piv.nd : ∀ {b : Bs}, Piv b → (b.map (·.1)).Nodup
  | [], _ => List.nodup_nil
  | x :: b, h => by
    rw [List.map_cons]
    refine List.nodup_cons.mpr ⟨fun m => ?_, h.tail.nd⟩
    obtain ⟨y, hy, e⟩ := List.mem_map.mp m
    have h1 := ((List.pairwise_cons.mp h.own).1 y hy).2
    obtain ⟨k, e1, t⟩ := h.piv x List.mem_cons_self
    rw [e, e1] at h1
    exact and_pow_ne.mpr t h1
end CP
namespace CP
open PySem PySem.Spec PyProof.Rows L2
theorem basOf_ok (ns : List Str) (es : List Ed2) : BsOk (rowsOf ns es) (basOf ns es) := basis_ok _
end CP
namespace CP
theorem comb_and {rows : List Nat} {p : Nat} (h : ∀ r ∈ rows, r &&& p = 0) : ∀ u, comb rows u &&& p = 0 := by
  induction rows with
  | nil => intro u; rw [comb, Nat.zero_and]
  | cons r rows ih =>
    intro u
    rw [comb, Nat.and_xor_distrib_right, ih (fun s hs => h s (List.mem_cons_of_mem _ hs)), Nat.xor_zero]
    split
    · exact h r List.mem_cons_self
    · exact Nat.zero_and _
theorem comb_clear : ∀ {b : Bs}, Piv b → ∀ t, (∀ x ∈ b, comb (rws b) t &&& x.1 = 0) → comb (rws b) t = 0
  | [], _, _, _ => rfl
  | x :: b, P, t, h => by
    have others : ∀ r ∈ rws b, r &&& x.1 = 0 := by
      intro r hr
      obtain ⟨y, hy, rfl⟩ := List.mem_map.mp hr
      exact ((List.pairwise_cons.mp P.own).1 y hy).1
    have h0 : comb (x.2.1 :: rws b) t &&& x.1 = 0 := h x List.mem_cons_self
    show comb (x.2.1 :: rws b) t = 0
    rw [comb, Nat.and_xor_distrib_right, comb_and others, Nat.xor_zero] at h0
    obtain ⟨k, e, tb⟩ := P.piv x List.mem_cons_self
    by_cases c : t % 2 = 1
    · rw [if_pos c, e] at h0
      exact absurd h0 (and_pow_ne.mpr tb)
    · rw [comb, if_neg c, Nat.zero_xor]
      refine comb_clear P.tail _ fun y hy => ?_
      have this : comb (x.2.1 :: rws b) t &&& y.1 = 0 := h y (List.mem_cons_of_mem _ hy)
      rwa [comb, if_neg c, Nat.zero_xor] at this
theorem red_zero {rows : List Nat} {b : Bs} (h : BsOk rows b) (n r : Nat) : (red b n r).1 = 0 ↔ ∃ u, n = comb rows u := by
  obtain ⟨u, _, h1, _⟩ := red_comb b n r
  constructor
  · intro z
    rw [h1] at z
    exact ⟨_, (xor_eq_zero z).trans (comb_comb (fun x hx => (h.rcp x hx).1) u)⟩
  · rintro ⟨v, rfl⟩
    obtain ⟨w, hw⟩ := comb_of h.spn v
    have cl := red_clear (comb rows v) r h.toPiv
    rw [h1, hw, ← comb_xor] at cl ⊢
    exact comb_clear h.toPiv _ cl
theorem left_wit {rows : List Nat} {b : Bs} (h : BsOk rows b) {n r m : Nat} (hr : ∀ x ∈ rows, x < 2 ^ m) (hn : n < 2 ^ m) (nz : (red b n r).1 ≠ 0) : (∀ x ∈ rows, dot x (wit b (low (red b n r).1)) = false) ∧ dot n (wit b (low (red b n r).1)) = true ∧ wit b (low (red b n r).1) < 2 ^ m := by
  obtain ⟨u, _, h1, _⟩ := red_comb b n r
  have cl := red_clear n r h.toPiv
  generalize (red b n r).1 = q at h1 cl nz ⊢
  obtain ⟨k, tk, _, _, l⟩ := low_spec q (by omega)
  have np : ∀ x ∈ b, x.1 ≠ 2 ^ k := fun x hx z => by
    have := cl x hx
    rw [z] at this
    exact and_pow_ne.mpr tk this
  obtain ⟨w1, w2, w3⟩ := wit_spec h.toPiv np
  have small : ∀ x ∈ b, x.2.1 < 2 ^ m := fun x hx => by rw [(h.rcp x hx).1]; exact comb_lt hr _
  have qm : q < 2 ^ m := by
    rw [h1]
    exact Nat.xor_lt_two_pow hn (comb_lt (fun y hy => by obtain ⟨x, hx, rfl⟩ := List.mem_map.mp hy; exact small x hx) u)
  rw [l]
  refine ⟨fun x hx => ?_, ?_, ?_⟩
  · obtain ⟨v, rfl⟩ := h.spn x hx
    exact dot_comb w2 v
  · have e : n = q ^^^ comb (rws b) u := by rw [h1, xor_xor]
    rw [e, dot_xor, w3 q tk cl, dot_comb w2]
    rfl
  · refine Nat.lt_pow_two_of_testBit _ fun i hi => ?_
    rw [w1 i, Bool.or_eq_false_iff]
    have le : ∀ {a : Nat}, a < 2 ^ m → a.testBit i = false := fun {a} ha => Nat.testBit_lt_two_pow (Nat.lt_of_lt_of_le ha (Nat.pow_le_pow_right (by decide) hi))
    refine ⟨decide_eq_false fun z => ?_, ?_⟩
    · have := le qm
      rw [z, tk] at this
      cases this
    · rw [List.any_eq_false]
      intro x hx z
      rw [Bool.and_eq_true_iff] at z
      obtain ⟨j, ej, tj⟩ := h.piv x hx
      have ei : x.1 = 2 ^ i := of_decide_eq_true z.1
      have : j = i := (Nat.pow_right_inj (by decide)).mp (ej.symm.trans ei)
      rw [this, le (small x hx)] at tj
      cases tj
end CP
namespace CP
open PySem PySem.Spec PyProof.Rows L2
section
variable {ns : List Str} {es : List Ed2} {n : Nat}
theorem num_lt (es : List Ed2) (r : List Pr2) : num es r < 2 ^ (prs es).length := nmf_lt _ _
theorem rows_lt {x : Nat} (h : x ∈ rowsOf ns es) : x < 2 ^ (prs es).length := by
  obtain ⟨c, _, rfl⟩ := List.mem_map.mp h
  exact num_lt es _
def Made (ns : List Str) (es : List Ed2) (n : Nat) : Prop := ∃ u, n = comb (rowsOf ns es) u
theorem lead_word (ns : List Str) (es : List Ed2) (n : Nat) : ((lead ns es n).1 = "carries" ↔ Made ns es n) ∧ ((lead ns es n).1 = "carries" ∨ (lead ns es n).1 = "witness") := by
  have z := red_zero (basOf_ok ns es) n 0
  unfold lead Made
  dsimp only
  by_cases c : (red (basOf ns es) n 0).1 = 0
  · rw [if_pos c]
    exact ⟨⟨fun _ => z.mp c, fun _ => rfl⟩, .inl rfl⟩
  · rw [if_neg c]
    exact ⟨⟨fun w => absurd (show ("witness" : Str) = "carries" from w) (by decide), fun w => absurd (z.mpr w) c⟩, .inr rfl⟩
end
end CP
namespace CP
open PySem PySem.Spec PyProof.Rows L2
theorem cut_some {α : Type} (f : α → PV) (xs : List α) (lo hi : Option Int) : ∃ ys : List α, cutP (xs.map f) lo hi = ys.map f ∧ ys.length ≤ xs.length := by
  unfold cutP
  rw [List.length_map]
  refine ⟨(xs.drop (HT.sIx xs.length 0 lo)).take (HT.sIx xs.length xs.length hi - HT.sIx xs.length 0 lo), by rw [List.map_take, List.map_drop], ?_⟩
  rw [List.length_take, List.length_drop]
  omega
theorem GrIn.take {ns : List Str} {es : List Ed2} (h : GrIn ns es) (n : Nat) : GrIn ns (es.take n) := ⟨h.toVsOk, (List.take_sublist _ _).nodup h.end_, by have := h.e18; rw [List.length_take]; omega, fun e he => h.ed e (List.mem_of_mem_take he)⟩
theorem RecOk.oks {ns : List Str} {es : List Ed2} {r : List Pr2} (hr : RecOk es r) (hg : GrOk ns es) : encPr.oks r = true := List.all_eq_true.mpr fun p hp => hg.toGrIn.okP (hr.sub p hp)
theorem CaOk.srt {ns : List Str} {es : List Ed2} {c : Ca2} (h : CaOk ns es c) : CaOk ns (encE.srtd es) c := ⟨(encE.srtd_perm es).mem_iff.mpr h.e, h.v, h.n1, h.n2⟩
theorem shp_ints (xs : List Int) : Shp (.lst (xs.map .int)) := (shp_iff _).mpr fun x hx => by
  obtain ⟨i, _, rfl⟩ := List.mem_map.mp hx
  exact ⟨rfl, rfl, Nat.zero_le _⟩
end CP
namespace CP
open PySem PySem.Spec PyProof.Rows L2
variable {ns : List Str} {E E2 : List Ed2}
theorem flip_at {E : List Ed2} {c : Ca2} {p : Pr2} : p ∈ flips E c ↔ ∃ o ∈ E, ((c.2 = o.1 ∨ c.2 = o.2) ∧ apart c.1 o = true) ∧ (if encE.lt o c.1 = true then (o, c.1) else (c.1, o)) = p := by
  unfold flips
  rw [List.mem_map]
  refine exists_congr fun o => ?_
  rw [List.mem_filter, Bool.and_eq_true_iff, decide_eq_true_iff, and_assoc]
end CP
namespace CP
def Spn (b : List Nat) (n : Nat) : Prop := ∃ u, n = comb b u
section
variable {b c : List Nat} {m n : Nat}
theorem spn_zero : Spn b 0 := ⟨0, (comb_zero b).symm⟩
theorem spn_xor (h1 : Spn b m) (h2 : Spn b n) : Spn b (m ^^^ n) := by
  obtain ⟨u, rfl⟩ := h1
  obtain ⟨v, rfl⟩ := h2
  exact ⟨u ^^^ v, (comb_xor _ _ _).symm⟩
theorem spn_mem (h : n ∈ b) : Spn b n := mem_comb h
theorem spn_trans (h : ∀ r ∈ b, Spn c r) (h1 : Spn b n) : Spn c n := by
  obtain ⟨u, rfl⟩ := h1
  exact comb_of h u
theorem spn_ind {p : Nat → Prop} (h0 : p 0) (hx : ∀ a b, p a → p b → p (a ^^^ b)) (hb : ∀ r ∈ b, p r) (h : Spn b n) : p n := by
  obtain ⟨u, rfl⟩ := h
  induction b generalizing u with
  | nil => exact h0
  | cons r b ih =>
    rw [comb]
    refine hx _ _ ?_ (ih (fun s hs => hb s (List.mem_cons_of_mem _ hs)) _)
    split
    · exact hb r List.mem_cons_self
    · exact h0
theorem spn_sub (h : ∀ r ∈ b, r ∈ c) (h1 : Spn b n) : Spn c n := spn_trans (fun r hr => spn_mem (h r hr)) h1
end
theorem comb_mod : ∀ (b : List Nat) (u : Nat), comb b (u % 2 ^ b.length) = comb b u
  | [], u => rfl
  | r :: b, u => by
    rw [comb, comb, List.length_cons]
    have e1 : u % 2 ^ (b.length + 1) % 2 = u % 2 := by
      rw [Nat.pow_succ]
      exact Nat.mod_mul_left_mod ..
    have e2 : u % 2 ^ (b.length + 1) / 2 = u / 2 % 2 ^ b.length := by
      rw [Nat.pow_succ, Nat.mul_comm]
      exact Nat.mod_mul_right_div_self ..
    rw [e1, e2, comb_mod b]
def Ind (b : List Nat) : Prop := ∀ u, u < 2 ^ b.length → comb b u = 0 → u = 0
theorem ind_inj {b : List Nat} (h : Ind b) {u v : Nat} (hu : u < 2 ^ b.length) (hv : v < 2 ^ b.length) (e : comb b u = comb b v) : u = v := by
  have : comb b (u ^^^ v) = 0 := by rw [comb_xor, e, Nat.xor_self]
  exact xor_eq_zero (h _ (Nat.xor_lt_two_pow hu hv) this)
theorem nod_le : ∀ {r P : List Nat}, r.Nodup → (∀ p ∈ r, p ∈ P) → r.length ≤ P.length
  | [], _, _, _ => Nat.zero_le _
  | x :: r, P, nd, h => by
    obtain ⟨h1, h2⟩ := List.nodup_cons.mp nd
    have hx := h x List.mem_cons_self
    have := nod_le (P := P.erase x) h2 fun p hp => (List.mem_erase_of_ne fun z : p = x => h1 (z ▸ hp)).mpr (h p (List.mem_cons_of_mem _ hp))
    rw [List.length_erase_of_mem hx] at this
    have := List.length_pos_of_mem hx
    rw [List.length_cons]; omega
theorem nod_map {f : Nat → Nat} : ∀ {l : List Nat}, l.Nodup → (∀ a ∈ l, ∀ b ∈ l, f a = f b → a = b) → (l.map f).Nodup
  | [], _, _ => List.nodup_nil
  | x :: l, nd, h => by
    obtain ⟨h1, h2⟩ := List.nodup_cons.mp nd
    rw [List.map_cons]
    refine List.nodup_cons.mpr ⟨fun z => ?_, nod_map h2 fun a ha b hb => h a (List.mem_cons_of_mem _ ha) b (List.mem_cons_of_mem _ hb)⟩
    obtain ⟨y, hy, e⟩ := List.mem_map.mp z
    exact h1 (h y (List.mem_cons_of_mem _ hy) x List.mem_cons_self e ▸ hy)
theorem dim_le {b c : List Nat} (h : Ind b) (s : ∀ x ∈ b, Spn c x) : b.length ≤ c.length := by
  have := nod_le (r := (List.range (2 ^ b.length)).map (comb b)) (P := (List.range (2 ^ c.length)).map (comb c)) (nod_map List.nodup_range fun u hu v hv e => ind_inj h (List.mem_range.mp hu) (List.mem_range.mp hv) e) fun p hp => by
    obtain ⟨u, _, rfl⟩ := List.mem_map.mp hp
    obtain ⟨v, e⟩ := comb_of s u
    exact List.mem_map.mpr ⟨v % 2 ^ c.length, List.mem_range.mpr (Nat.mod_lt _ (Nat.two_pow_pos _)), by rw [comb_mod, e]⟩
  rw [List.length_map, List.length_map, List.length_range, List.length_range] at this
  exact (Nat.pow_le_pow_iff_right (by decide)).mp this
theorem comb_map {f : Nat → Nat} (f0 : f 0 = 0) (fx : ∀ a b, f (a ^^^ b) = f a ^^^ f b) : ∀ (b : List Nat) (u : Nat), comb (b.map f) u = f (comb b u)
  | [], _ => f0.symm
  | r :: b, u => by
    rw [List.map_cons, comb, comb, fx, comb_map f0 fx b]
    congr 1
    split
    · rfl
    · exact f0.symm
theorem dim_map {b c : List Nat} (hb : Ind b) {f : Nat → Nat} (f0 : f 0 = 0) (fx : ∀ a b, f (a ^^^ b) = f a ^^^ f b) (inj : ∀ n, Spn b n → f n = 0 → n = 0) (s : ∀ x ∈ b, Spn c (f x)) : b.length ≤ c.length := by
  have h : Ind (b.map f) := fun u hu e => by
    rw [List.length_map] at hu
    rw [comb_map f0 fx] at e
    exact hb u hu (inj _ ⟨u, rfl⟩ e)
  have := dim_le h fun x hx => by
    obtain ⟨y, hy, rfl⟩ := List.mem_map.mp hx
    exact s y hy
  rwa [List.length_map] at this
def Ev (rows : List Nat) (size w : Nat) : Prop := (∀ r ∈ rows, dot w r = false) ∧ w < 2 ^ size
theorem evenStep_spn {fnd : List Nat} {row n : Nat} (h : Spn fnd n) : (dot n row = false ∧ Spn (evenStep fnd row) n) ∨ (dot n row = true ∧ Spn (evenStep fnd row) (n ^^^ (fnd.filter fun b => dot b row).headD 0)) := by
  have hd : ∀ x ∈ fnd, dot x row = true → (dot ((fnd.filter fun b => dot b row).headD 0) row = true ∧ Spn (evenStep fnd row) (x ^^^ (fnd.filter fun b => dot b row).headD 0)) := fun x hx o => by
    have m : x ∈ fnd.filter fun b => dot b row := List.mem_filter.mpr ⟨hx, o⟩
    unfold evenStep
    cases q : fnd.filter fun b => dot b row with
    | nil => rw [q] at m; cases m
    | cons y ys =>
      have yo : dot y row = true := (List.mem_filter (p := fun b => dot b row)).mp (by rw [q]; exact List.mem_cons_self) |>.2
      refine ⟨yo, ?_⟩
      rw [q] at m
      rcases List.mem_cons.mp m with rfl | m
      · show Spn _ (x ^^^ x)
        rw [Nat.xor_self]; exact spn_zero
      · exact spn_mem (List.mem_append.mpr (.inr (List.mem_map.mpr ⟨x, by simpa using m, rfl⟩)))
  refine spn_ind (p := fun n => (dot n row = false ∧ Spn (evenStep fnd row) n) ∨ (dot n row = true ∧ dot ((fnd.filter fun b => dot b row).headD 0) row = true ∧ Spn (evenStep fnd row) (n ^^^ (fnd.filter fun b => dot b row).headD 0))) (.inl ⟨dot_zero _, spn_zero⟩) (fun a b ha hb => ?_) (fun r hr => ?_) h |>.imp id fun h => ⟨h.1, h.2.2⟩
  · generalize (fnd.filter fun b => dot b row).headD 0 = o at ha hb ⊢
    rcases ha with ⟨a1, a2⟩ | ⟨a1, a2, a3⟩ <;> rcases hb with ⟨b1, b2⟩ | ⟨b1, b2, b3⟩
    · exact .inl ⟨by rw [dot_xor, a1, b1]; rfl, spn_xor a2 b2⟩
    · exact .inr ⟨by rw [dot_xor, a1, b1]; rfl, b2, by rw [Nat.xor_assoc]; exact spn_xor a2 b3⟩
    · exact .inr ⟨by rw [dot_xor, a1, b1]; rfl, a2, by rw [Nat.xor_assoc, Nat.xor_comm b, ← Nat.xor_assoc]; exact spn_xor a3 b2⟩
    · refine .inl ⟨by rw [dot_xor, a1, b1]; rfl, ?_⟩
      have := spn_xor a3 b3
      have e : a ^^^ o ^^^ (b ^^^ o) = a ^^^ b := by rw [Nat.xor_assoc, ← Nat.xor_assoc o, Nat.xor_comm o b, Nat.xor_assoc b, Nat.xor_self, Nat.xor_zero]
      rwa [e] at this
  · cases o : dot r row with
    | true => exact .inr ⟨rfl, hd r hr o⟩
    | false => exact .inl ⟨rfl, spn_mem (List.mem_append.mpr (.inl (List.mem_filter.mpr ⟨hr, by rw [o]; rfl⟩)))⟩
theorem pows_spn (size n : Nat) (h : n < 2 ^ size) : Spn ((List.range size).map (2 ^ ·)) n := by
  induction size generalizing n with
  | zero =>
    have : n = 0 := by have : n < 1 := h; omega
    rw [this]; exact spn_zero
  | succ k ih =>
    rw [List.range_succ, List.map_append]
    have sub : ∀ {x}, Spn ((List.range k).map (2 ^ ·)) x → Spn ((List.range k).map (2 ^ ·) ++ [k].map (2 ^ ·)) x := fun h => spn_sub (fun r hr => List.mem_append.mpr (.inl hr)) h
    by_cases c : n.testBit k = true
    · have l : n ^^^ 2 ^ k < 2 ^ k := by
        refine Nat.lt_pow_two_of_testBit _ fun i hi => ?_
        rw [Nat.testBit_xor, Nat.testBit_two_pow]
        by_cases e : k = i
        · subst e; rw [c]; simp
        · rw [Nat.testBit_lt_two_pow (Nat.lt_of_lt_of_le h (Nat.pow_le_pow_right (by decide) (by omega)))]
          simp [e]
      have := spn_xor (sub (ih _ l)) (spn_mem (n := 2 ^ k) (List.mem_append.mpr (.inr (List.mem_map.mpr ⟨k, List.mem_singleton.mpr rfl, rfl⟩))))
      rwa [xor_xor] at this
    · have l : n < 2 ^ k := by
        refine Nat.lt_pow_two_of_testBit _ fun i hi => ?_
        by_cases e : k = i
        · subst e; simpa using c
        · exact Nat.testBit_lt_two_pow (Nat.lt_of_lt_of_le h (Nat.pow_le_pow_right (by decide) (by omega)))
      exact sub (ih _ l)
theorem evens_spn : ∀ (rows : List Nat) {fnd done : List Nat} {size : Nat}, (∀ w, Ev done size w → Spn fnd w) → ∀ w, Ev (done ++ rows) size w → Spn (rows.foldl evenStep fnd) w
  | [], _, _, _, h, w, hw => h w (by rwa [List.append_nil] at hw)
  | r :: rows, fnd, done, size, h, w, hw => by
    rw [List.foldl_cons]
    refine evens_spn rows (done := done ++ [r]) (fun v hv => ?_) w (by rwa [List.append_assoc])
    have h1 : Ev done size v := ⟨fun x hx => hv.1 x (List.mem_append.mpr (.inl hx)), hv.2⟩
    have h2 : dot v r = false := hv.1 r (List.mem_append.mpr (.inr List.mem_cons_self))
    rcases evenStep_spn (row := r) (h v h1) with q | q
    · exact q.2
    · rw [h2] at q; cases q.1
theorem evens_all_spn {rows : List Nat} {size w : Nat} (h : Ev rows size w) : Spn (evens rows size) w := evens_spn rows (done := []) (fun w hw => pows_spn size w hw.2) w h
theorem evenStep_len_eq (fnd : List Nat) (row : Nat) : (evenStep fnd row).length + (if ∃ x ∈ fnd, dot x row = true then 1 else 0) = fnd.length := by
  have : fnd.length = (fnd.filter fun b => !dot b row).length + (fnd.filter fun b => dot b row).length := by
    have := List.length_eq_countP_add_countP (p := fun b => dot b row) (l := fnd)
    rw [List.countP_eq_length_filter, List.countP_eq_length_filter] at this
    have e : (fnd.filter fun b => decide ¬ dot b row = true) = fnd.filter fun b => !dot b row := List.filter_congr fun x _ => by cases dot x row <;> rfl
    rw [e] at this; omega
  unfold evenStep
  rw [List.length_append, List.length_map, List.length_drop]
  by_cases c : ∃ x ∈ fnd, dot x row = true
  · rw [if_pos c]
    obtain ⟨x, hx, o⟩ := c
    have := List.length_pos_of_mem (List.mem_filter (p := fun b => dot b row) |>.mpr ⟨hx, o⟩)
    omega
  · rw [if_neg c]
    have : (fnd.filter fun b => dot b row).length = 0 := by
      rw [List.length_eq_zero_iff]
      exact List.filter_eq_nil_iff.mpr fun x hx o => c ⟨x, hx, o⟩
    omega
def blen (n : Nat) : Nat := if n = 0 then 0 else n.log2 + 1
theorem blen_le {n k : Nat} : blen n ≤ k ↔ n < 2 ^ k := by
  unfold blen
  by_cases h : n = 0
  · subst h
    rw [if_pos rfl]
    exact ⟨fun _ => Nat.two_pow_pos k, fun _ => Nat.zero_le _⟩
  · rw [if_neg h]
    exact (Nat.log2_lt h)
theorem blen_zero {n : Nat} : blen n = 0 ↔ n = 0 := by
  unfold blen
  by_cases h : n = 0
  · simp [h]
  · simp [h]
theorem blen_xor_lt {x y : Nat} (h : blen x < blen y) : blen (x ^^^ y) = blen y := by
  have l1 : x < 2 ^ blen y := blen_le.mp (Nat.le_of_lt h)
  have l2 : y < 2 ^ blen y := blen_le.mp (Nat.le_refl _)
  refine Nat.le_antisymm (blen_le.mpr (Nat.xor_lt_two_pow l1 l2)) (Nat.not_lt.mp fun z => ?_)
  obtain ⟨k, e⟩ : ∃ k, blen y = k + 1 := ⟨blen y - 1, by omega⟩
  have a1 : x ^^^ y < 2 ^ k := blen_le.mp (by omega)
  have a2 : x < 2 ^ k := blen_le.mp (by omega)
  have : y < 2 ^ k := by
    have := Nat.xor_lt_two_pow a2 a1
    rwa [← Nat.xor_assoc, Nat.xor_self, Nat.zero_xor] at this
  have := blen_le.mpr this
  omega
theorem blen_ind : ∀ {b : List Nat}, (∀ x ∈ b, x ≠ 0) → (b.map blen).Nodup → ∀ u, u < 2 ^ b.length → u ≠ 0 → comb b u ≠ 0 ∧ blen (comb b u) ∈ b.map blen
  | [], _, _, u, hu, nz => by
    have : u < 1 := hu
    omega
  | x :: b, h, nd, u, hu, nz => by
    rw [List.map_cons] at nd
    obtain ⟨n1, n2⟩ := List.nodup_cons.mp nd
    have hx := h x List.mem_cons_self
    have l : u / 2 < 2 ^ b.length := by
      rw [List.length_cons, Nat.pow_succ] at hu
      omega
    have ih := blen_ind (fun y hy => h y (List.mem_cons_of_mem _ hy)) n2 (u / 2) l
    rw [comb, List.map_cons]
    by_cases o : u % 2 = 1
    · rw [if_pos o]
      by_cases z : u / 2 = 0
      · rw [z, comb_zero, Nat.xor_zero]
        exact ⟨hx, List.mem_cons_self⟩
      · obtain ⟨i1, i2⟩ := ih z
        have ne : blen x ≠ blen (comb b (u / 2)) := fun e => n1 (e ▸ i2)
        rcases Nat.lt_or_gt_of_ne ne with q | q
        · have := blen_xor_lt q
          exact ⟨fun w => i1 (blen_zero.mp (by rw [← this, w]; rfl)), by rw [this]; exact List.mem_cons_of_mem _ i2⟩
        · have := blen_xor_lt q
          rw [Nat.xor_comm] at this
          exact ⟨fun w => hx (blen_zero.mp (by rw [← this, w]; rfl)), by rw [this]; exact List.mem_cons_self⟩
    · rw [if_neg o, Nat.zero_xor]
      obtain ⟨i1, i2⟩ := ih (by omega)
      exact ⟨i1, List.mem_cons_of_mem _ i2⟩
theorem ind_blen {b : List Nat} (h : ∀ x ∈ b, x ≠ 0) (nd : (b.map blen).Nodup) : Ind b := fun u hu e => Decidable.byContradiction fun nz => (blen_ind h nd u hu nz).1 e
end CP
namespace CP
open PySem PySem.Spec PyProof.Rows L2
instance xorC : Std.Commutative (α := Bool) xor := ⟨Bool.xor_comm⟩
instance xorA : Std.Associative (α := Bool) xor := ⟨Bool.xor_assoc⟩
section
variable {α : Type}
def xorL (f : α → Bool) : List α → Bool
  | [] => false
  | c :: cs => f c ^^ xorL f cs
theorem xorL_filter (f g : α → Bool) : ∀ cs : List α, xorL f (cs.filter g) = xorL (fun c => g c && f c) cs
  | [] => rfl
  | c :: cs => by
    rw [List.filter_cons, xorL]
    cases h : g c with
    | true => rw [if_pos rfl, xorL, xorL_filter f g cs, Bool.true_and]
    | false => rw [if_neg (by decide), xorL_filter f g cs, Bool.false_and, Bool.false_xor]
theorem xorL_perm {f : α → Bool} {cs ds : List α} (h : cs.Perm ds) : xorL f cs = xorL f ds := by
  induction h with
  | nil => rfl
  | cons x _ ih => rw [xorL, xorL, ih]
  | swap x y l => rw [xorL, xorL, xorL, xorL, ← Bool.xor_assoc, ← Bool.xor_assoc, Bool.xor_comm (f y)]
  | trans _ _ a b => exact a.trans b
theorem xorL_congr {f g : α → Bool} : ∀ {cs : List α}, (∀ c ∈ cs, f c = g c) → xorL f cs = xorL g cs
  | [], _ => rfl
  | c :: cs, h => by rw [xorL, xorL, h c List.mem_cons_self, xorL_congr fun d hd => h d (List.mem_cons_of_mem _ hd)]
end
theorem strLt_ne {a b : Str} (h : strLt a b = true) : a ≠ b := fun z => by
  have : strLt b b = false := encS.irr b
  rw [z, this] at h; cases h
theorem plc_ne {os : List Str} {u v : Str} (hu : u ∈ os) (h : u ≠ v) : plc os u ≠ plc os v := by
  unfold plc
  intro e
  refine h ?_
  have lu := List.idxOf_lt_length_of_mem hu
  have g1 : os[os.idxOf u] = u := List.getElem_idxOf lu
  have lv : os.idxOf v < os.length := e ▸ lu
  have g2 : os[os.idxOf v] = v := List.getElem_idxOf lv
  rw [← g1, ← g2]
  congr 1
theorem ap_ne {e f : Ed2} (h : apart e f = true) : e.1 ≠ f.1 ∧ e.1 ≠ f.2 ∧ e.2 ≠ f.1 ∧ e.2 ≠ f.2 := of_decide_eq_true h
theorem ap_sym {e f : Ed2} (h : apart e f = true) : apart f e = true := by
  obtain ⟨a, b, c, d⟩ := ap_ne h
  exact decide_eq_true ⟨a.symm, c.symm, b.symm, d.symm⟩
section
variable {ns : List Str} {es : List Ed2}
theorem mem_flips (hg : GrOk ns es) {c : Ca2} {p : Pr2} (hp : p ∈ prs es) : p ∈ flips es c ↔ (c.1 = p.1 ∧ (c.2 = p.2.1 ∨ c.2 = p.2.2)) ∨ (c.1 = p.2 ∧ (c.2 = p.1.1 ∨ c.2 = p.1.2)) := by
  obtain ⟨h1, h2, lt, ap⟩ := (prs_iff hg.asc).mp hp
  rw [flip_at]
  constructor
  · rintro ⟨o, ho, ⟨v, _⟩, e⟩
    split at e
    · subst e; exact .inr ⟨rfl, v⟩
    · subst e; exact .inl ⟨rfl, v⟩
  · rintro (⟨e, v⟩ | ⟨e, v⟩)
    · refine ⟨p.2, h2, ⟨v, e ▸ ap⟩, ?_⟩
      rw [e, if_neg (by rw [encE.asymm lt]; decide)]
    · refine ⟨p.1, h1, ⟨v, e ▸ ap_sym ap⟩, ?_⟩
      rw [e, if_pos lt]
end
end CP
namespace CP
open PySem PySem.Spec PyProof.Rows L2
end CP
namespace CP
open PySem PySem.Spec PyProof.Rows L2
end CP
namespace CP
open PySem PySem.Spec PyProof.Rows L2
end CP
namespace CP
open PySem PySem.Spec PyProof.Rows L2
end CP
namespace CP
open PySem PySem.Spec PyProof.Rows L2
end CP
namespace CP
open PySem PySem.Spec PyProof.Rows L2
variable {ns : List Str} {es : List Ed2} {n : Nat}
theorem RecOk.perm {a b : List Pr2} (h : a.Perm b) (ha : RecOk es a) : RecOk es b := ⟨h.nodup_iff.mp ha.nd, fun p hp => ha.sub p (h.mem_iff.mpr hp)⟩
theorem RecOk.srtd {a : List Pr2} (ha : RecOk es a) : RecOk es (encPr.srtd a) := ha.perm (encPr.srtd_perm a).symm
theorem cvx_ok (hg : GrOk ns es) (os : List Str) : RecOk es (cvx es os) := ⟨(prs_nd hg.asc).filter _, fun p hp => (List.mem_filter.mp hp).1⟩
end CP
namespace CP
open PySem PySem.Spec PyProof.Rows L2
end CP
namespace CP
open PySem PySem.Spec PyProof.Rows L2
end CP
namespace CP
open PySem PySem.Spec PyProof.Rows L2
end CP
namespace CP
open PySem PySem.Spec PyProof.Rows L2
def gLaw : PG1 := fun ss Q => ∃ xs : List Int, xs.length ≤ 63 ∧ ss = [.val (.scr (xs.map .int))] ∧ Q (.sh (.bl true)) ss
theorem rep_ints {G : En} {H : Hp} {M : Addr → Prop} : ∀ ns : List Int, RepAll G H M (ns.map V.int) (ns.map PV.int)
  | [] => .nil
  | n :: ns => .cons (.int n) (rep_ints ns)
theorem law_in {P : Program} {w : World} {K : PySem.W.Frag} {H : Hp} {a : Addr} {ns : List Int} (hl : ns.length ≤ 63) (hS : SqL K H a (ns.map V.int)) : spP ⟨P, w, K⟩ gLaw [.ref a] H (fun v _ => v = .bl true) fun _ _ _ => False := by
  refine ⟨[.val (.scr (ns.map .int))], fun _ => False, fun r _ => r = .sh (.bl true), .val (.scr (hS.elim (fun q => .inl ⟨q, fun z => z⟩) .inr) (rep_ints ns)) .nil, ?_, fun a z => z.elim, ⟨ns, hl, rfl, rfl⟩, ?_⟩
  · rintro i j b ⟨_, p, h⟩ _
    cases i with
    | zero => cases h
    | succ i => cases h
  · rintro r ss' rfl v H' M' E
    have h : Rep ⟨P, w, K⟩ H' M' v (.bl true) := E.res
    cases h
    rfl
end CP
namespace CP
open PySem PySem.Spec PyProof.Rows L2
abbrev Pt := Int × Int
def pT (p : Pt) : PV := .tup [.int p.1, .int p.2]
def nearI (n : Int) : Bool := decide (-(10 ^ 30) ≤ n) && decide (n ≤ 10 ^ 30)
def nearB (p : Pt) : Bool := nearI p.1 && nearI p.2
def ptsD (xs : List Str) (f : Str → Pt) : List (PV × PV) := xs.map fun x => (.str x, pT (f x))
def linD (ys : List Ed2) (bv : Ed2 → PV) : List (PV × PV) := ys.map fun e => (pE e, bv e)
structure BdOk (es : List Ed2) (bv : Ed2 → PV) (b : Ed2 → List Pt) : Prop where
  row : ∀ e ∈ es, isRow (bv e) ((b e).map pT)
  few : ∀ e ∈ es, (b e).length ≤ 60
  near : ∀ e ∈ es, ∀ p ∈ b e, nearB p = true
def path (f : Str → Pt) (b : Ed2 → List Pt) (e : Ed2) : List Pt := f e.1 :: b e ++ [f e.2]
def segs (ps : List Pt) : List (Pt × Pt) := ps.zip (ps.drop 1)
def offs (s t p : Pt) : Int := (t.1 - s.1) * p.2 - (t.2 - s.2) * p.1 - ((t.1 - s.1) * s.2 - (t.2 - s.2) * s.1)
def boxB (s t p : Pt) : Bool := (decide (min s.1 t.1 ≤ p.1 ∧ p.1 ≤ max s.1 t.1) && decide (min s.2 t.2 ≤ p.2 ∧ p.2 ≤ max s.2 t.2)) && (decide (p ≠ s) && decide (p ≠ t))
def boxed (s t : Pt) (ps : List Pt) : List Pt := ps.filter (boxB s t)
def places (ns : List Str) (es : List Ed2) (f : Str → Pt) (b : Ed2 → List Pt) : List Pt := ns.map f ++ es.flatMap b
structure GenPos (ns : List Str) (es : List Ed2) (f : Str → Pt) (b : Ed2 → List Pt) : Prop where
  nd : (places ns es f b).Nodup
  few : (places ns es f b).length < 300
  off : ∀ e ∈ es, ∀ s ∈ segs (path f b e), ∀ p ∈ places ns es f b, boxB s.1 s.2 p = true → offs s.1 s.2 p ≠ 0
def oppB (a b : Int) : Bool := decide (a < 0 ∧ 0 < b ∨ b < 0 ∧ 0 < a)
def crossB (s t u v : Pt) : Bool := oppB (offs s t u) (offs s t v) && oppB (offs u v s) (offs u v t)
def hitsN (s t : Pt) (ps : List Pt) : Nat := ((segs ps).filter fun q => crossB s t q.1 q.2).length
def crossN (f : Str → Pt) (b : Ed2 → List Pt) (e1 e2 : Ed2) : Nat := ((segs (path f b e1)).map fun s => hitsN s.1 s.2 (path f b e2)).sum
def pDr (C Cd : Addr) (ns : List Str) (es : List Ed2) (f : Str → Pt) (b : Ed2 → List Pt) : PV := .ins Cd ["graph", "points", "lines"] [pG C ns es, .dic (ptsD ns f), .dic (linD es fun e => .tup ((b e).map pT))]
def g_is_coordinate (C : Addr) : PG1 := fun ss Q => ∃ n : Int, nearI n = true ∧ ss = [.val (.int n)] ∧ Q (.sh (.bl true)) ss
def g_is_place (C : Addr) : PG1 := fun ss Q => ∃ p : Pt, nearB p = true ∧ ss = [.val (pT p)] ∧ Q (.sh (.bl true)) ss
def g_are_points (C : Addr) : PG1 := fun ss Q => ∃ ns es xs f, GrOk ns es ∧ xs.Perm ns ∧ (∀ x ∈ ns, nearB (f x) = true) ∧ ss = [.val (pG C ns es), .val (.dic (ptsD xs f))] ∧ Q (.sh (.bl true)) ss
def g_are_bends (C : Addr) : PG1 := fun ss Q => ∃ v, ∃ bs : List Pt, isRow v (bs.map pT) ∧ bs.length ≤ 60 ∧ (∀ p ∈ bs, nearB p = true) ∧ ss = [.val v] ∧ Q (.sh (.bl true)) ss
def g_are_lines (C : Addr) : PG1 := fun ss Q => ∃ ns es ys bv b, GrOk ns es ∧ ys.Perm es ∧ BdOk es bv b ∧ ss = [.val (pG C ns es), .val (.dic (linD ys bv))] ∧ Q (.sh (.bl true)) ss
def g_path_of (C : Addr) : PG1 := fun ss Q => ∃ xs f ys bv b e, (xs.Nodup ∧ xs.length ≤ 8 ∧ ys.Nodup ∧ ys.length ≤ 18 ∧ e ∈ ys ∧ e.1 ∈ xs ∧ e.2 ∈ xs) ∧ BdOk ys bv b ∧ ss = [.val (.dic (ptsD xs f)), .val (.dic (linD ys bv)), .val (pE e)] ∧ Q (.fr (.lst ((path f b e).map pT))) ss
def g_offsets (C : Addr) : PG1 := fun ss Q => ∃ (s t : Pt) (ps : List Pt), ps.length ≤ 1000 ∧ (nearB s = true ∧ nearB t = true ∧ ∀ p ∈ ps, nearB p = true) ∧ ss = [.val (pT s), .val (pT t), .val (.lst (ps.map pT))] ∧ Q (.fr (.lst (ps.map fun p => .int (offs s t p)))) ss
def g_others_in_box (C : Addr) : PG1 := fun ss Q => ∃ (s t : Pt) (ps : List Pt), ps.length ≤ 1000 ∧ ss = [.val (pT s), .val (pT t), .val (.lst (ps.map pT))] ∧ Q (.fr (.lst ((boxed s t ps).map pT))) ss
def g_are_in_general_position (C : Addr) : PG1 := fun ss Q => ∃ ns es xs f ys bv b, GrOk ns es ∧ xs.Perm ns ∧ ys.Perm es ∧ (∀ x ∈ ns, nearB (f x) = true) ∧ BdOk es bv b ∧ GenPos ns es f b ∧ ss = [.val (pG C ns es), .val (.dic (ptsD xs f)), .val (.dic (linD ys bv))] ∧ Q (.sh (.bl true)) ss
def g_Drawing (C Cd : Addr) : PG1 := fun ss Q => ∃ ns es xs f ys bv b, GrOk ns es ∧ xs.Perm ns ∧ ys.Perm es ∧ (∀ x ∈ ns, nearB (f x) = true) ∧ BdOk es bv b ∧ GenPos ns es f b ∧ ss = [.io (.ins Cd [] []), .val (pG C ns es), .val (.dic (ptsD xs f)), .val (.dic (linD ys bv))] ∧ Q (.sh .non) [.io (pDr C Cd ns es f b), .val (pG C ns es), .val (.dic (ptsD xs f)), .val (.dic (linD ys bv))]
def g_are_opposite (C : Addr) : PG1 := fun ss Q => ∃ a b : Int, ss = [.val (.int a), .val (.int b)] ∧ Q (.sh (.bl (oppB a b))) ss
def g_hits (C : Addr) : PG1 := fun ss Q => ∃ (s t : Pt) (ps : List Pt), ps.length ≤ 1000 ∧ (nearB s = true ∧ nearB t = true ∧ ∀ p ∈ ps, nearB p = true) ∧ ss = [.val (pT s), .val (pT t), .val (.lst (ps.map pT))] ∧ Q (.sh (.int (hitsN s t ps : Nat))) ss
structure NearOk (ns : List Str) (es : List Ed2) (f : Str → Pt) (b : Ed2 → List Pt) : Prop where
  few : ∀ e ∈ es, (b e).length ≤ 60
  pts : ∀ x ∈ ns, nearB (f x) = true
  bds : ∀ e ∈ es, ∀ p ∈ b e, nearB p = true
def g_crossings (C Cd : Addr) : PG1 := fun ss Q => ∃ ns es f b e1 e2, GrOk ns es ∧ NearOk ns es f b ∧ e1 ∈ es ∧ e2 ∈ es ∧ e1 ≠ e2 ∧ ss = [.val (pDr C Cd ns es f b), .val (pE e1), .val (pE e2)] ∧ Q (.sh (.int (crossN f b e1 e2 : Nat))) ss
end CP
namespace CP
open PySem PySem.Spec PyProof.Rows L2
def q_is_coordinate (C : Addr) : QS := (sRet (qAndV (qCB gIsa (bCons (qVar 0) (bCons (qC (.ty "int")) bNil))) (qAndV (qNotV (qCB gIsa (bCons (qVar 0) (bCons (qC (.ty "bool")) bNil)))) (qCmp gLe (qCB gAbs (bCons (qVar 0) bNil)) (qC (.int (1000000000000000000000000000000)))))))
def q_is_place (C : Addr) : QS := (sRet (qAndV (qCallK (g_is_couple C) (aCons (qVar 0) aNil)) (qAndV (qCallK (g_is_coordinate C) (aCons (qIxU (qVar 0) (qC (.int (0)))) aNil)) (qCallK (g_is_coordinate C) (aCons (qIxU (qVar 0) (qC (.int (1)))) aNil)))))
def q_are_points (C : Addr) : QS := (sSeq (sIf (qOr (qNot (qTb (qCB gIsaU (bCons (qVar 1) (bCons (qC (.ty "dict")) bNil))))) (qTst gNe (qCB gLenU (bCons (qVar 1) bNil)) (qCB gLenU (bCons (qUn (gFld C "vertices") (qVar 0)) bNil)))) (sRet (qC (.bl false))) sNil)
  (sRet (qCB (gAllB fun ns => ns.all _root_.id) (bCons (qLc (iqItems (qVar 1)) (gqTup 2 (gqCons (gqName 2) (gqCons (gqName 3) gqNil))) qYes (qAndV (qCallK (g_is_among C) (aCons (qUn (gFld C "vertices") (qVar 0)) (aCons (qVar 2) aNil))) (qCallK (g_is_place C) (aCons (qVar 3) aNil))) [2, 3]) bNil))))
def q_are_bends (C : Addr) : QS := (sRet (qAndV (qCallK (g_is_row C) (aCons (qVar 0) aNil)) (qAndV (qCmp gLe (qCB gLenU (bCons (qVar 0) bNil)) (qC (.int (60)))) (qCB (gAllB fun ns => ns.all _root_.id) (bCons (qLc (iqAny (qVar 0)) (gqName 1) qYes (qCallK (g_is_place C) (aCons (qVar 1) aNil)) [1]) bNil)))))
def q_are_lines (C : Addr) : QS := (sSeq (sIf (qOr (qNot (qTb (qCB gIsaU (bCons (qVar 1) (bCons (qC (.ty "dict")) bNil))))) (qTst gNe (qCB gLenU (bCons (qVar 1) bNil)) (qCB gLenU (bCons (qUn (gFld C "edges") (qVar 0)) bNil)))) (sRet (qC (.bl false))) sNil)
  (sRet (qCB (gAllB fun ns => ns.all _root_.id) (bCons (qLc (iqItems (qVar 1)) (gqTup 2 (gqCons (gqName 2) (gqCons (gqName 3) gqNil))) qYes (qAndV (qCallK (g_is_edge C) (aCons (qVar 0) (aCons (qVar 2) aNil))) (qCallK (g_are_bends C) (aCons (qVar 3) aNil))) [2, 3]) bNil))))
def q_path_of (C : Addr) : QS := (sRet (qAdd (qAdd (qLst (aCons (qIxU (qVar 0) (qIxU (qVar 2) (qC (.int (0))))) aNil)) (qCB gListU (bCons (qIxU (qVar 1) (qVar 2)) bNil))) (qLst (aCons (qIxU (qVar 0) (qIxU (qVar 2) (qC (.int (1))))) aNil))))
def q_offsets (C : Addr) : QS := (sSeq (sSet 3 (qSub (qIxU (qVar 1) (qC (.int (0)))) (qIxU (qVar 0) (qC (.int (0))))))
  (sSeq (sSet 4 (qSub (qIxU (qVar 1) (qC (.int (1)))) (qIxU (qVar 0) (qC (.int (1))))))
  (sSeq (sSet 5 (qSub (qMulW (qVar 3) (qIxU (qVar 0) (qC (.int (1))))) (qMulW (qVar 4) (qIxU (qVar 0) (qC (.int (0)))))))
  (sRet (qLc (iqAny (qVar 2)) (gqTup 2 (gqCons (gqName 6) (gqCons (gqName 7) gqNil))) qYes (qSub (qSub (qMulW (qVar 3) (qVar 7)) (qMulW (qVar 4) (qVar 6))) (qVar 5)) [6, 7])))))
def q_others_in_box (C : Addr) : QS := (sSeq (sAsg (qCB gSortedU (bCons (qLst (aCons (qIxU (qVar 0) (qC (.int (0)))) (aCons (qIxU (qVar 1) (qC (.int (0)))) aNil))) bNil)) (gqTup 2 (gqCons (gqName 3) (gqCons (gqName 4) gqNil))))
  (sSeq (sAsg (qCB gSortedU (bCons (qLst (aCons (qIxU (qVar 0) (qC (.int (1)))) (aCons (qIxU (qVar 1) (qC (.int (1)))) aNil))) bNil)) (gqTup 2 (gqCons (gqName 5) (gqCons (gqName 6) gqNil))))
  (sSeq (sSet 9 (qLc (iqAny (qVar 2)) (gqTup 2 (gqCons (gqName 7) (gqCons (gqName 8) gqNil))) (qAnd (chainQ gLe gLe (qVar 3) (qVar 7) (qVar 4)) (chainQ gLe gLe (qVar 5) (qVar 8) (qVar 6))) (qTup (aCons (qVar 7) (aCons (qVar 8) aNil))) [7, 8]))
  (sRet (qLc (iqAny (qVar 9)) (gqName 10) (qAnd (qTst gNe (qVar 10) (qVar 0)) (qTst gNe (qVar 10) (qVar 1))) (qVar 10) [10])))))
def q_are_in_general_position (C : Addr) : QS := (sSeq (sSet 4 (qLc (iqAny (qUn (gFld C "vertices") (qVar 0))) (gqName 3) qYes (qIxU (qVar 1) (qVar 3)) [3]))
  (sSeq (sFor (iqAny (qUn (gFld C "edges") (qVar 0))) (gqName 5) (sAugAdd 4 (qCB gListU (bCons (qIxU (qVar 2) (qVar 5)) bNil))))
  (sSeq (sIf (qTst gNe (qLenSet (qVar 4)) (qCB gLenU (bCons (qVar 4) bNil))) (sRet (qC (.bl false))) sNil)
  (sSeq (sFor (iqAny (qUn (gFld C "edges") (qVar 0))) (gqName 5) (sSeq (sSet 6 (qCallK (g_path_of C) (aCons (qVar 1) (aCons (qVar 2) (aCons (qVar 5) aNil)))))
  (sFor (iqZip (aCons (qVar 6) (aCons (qSl (qVar 6) (oSome (qC (.int (1)))) oNone) aNil))) (gqTup 2 (gqCons (gqName 7) (gqCons (gqName 8) gqNil))) (sIf (qTst gInQ (qC (.int (0))) (qCallK (g_offsets C) (aCons (qVar 7) (aCons (qVar 8) (aCons (qCallK (g_others_in_box C) (aCons (qVar 7) (aCons (qVar 8) (aCons (qVar 4) aNil)))) aNil))))) (sRet (qC (.bl false))) sNil))))
  (sRet (qC (.bl true)))))))
def q_Drawing (C Cd : Addr) : QS := (sSeq (sIf (qNot (qTb (qCallK (g_are_points C) (aCons (qVar 1) (aCons (qVar 2) aNil))))) sNever sNil)
  (sSeq (sIf (qNot (qTb (qCallK (g_are_lines C) (aCons (qVar 1) (aCons (qVar 3) aNil))))) sNever sNil)
  (sSeq (sIf (qNot (qTb (qCallK (g_are_in_general_position C) (aCons (qVar 1) (aCons (qVar 2) (aCons (qVar 3) aNil)))))) sNever sNil)
  (sSeq (sFldS Cd 0 "graph" (qVar 1))
  (sSeq (sFldS Cd 0 "points" (qFrz (qDc false (iqAny (qUn (gFld C "vertices") (qVar 1))) (gqName 4) qYes (qVar 4) (qIxU (qVar 2) (qVar 4)) [4])))
  (sFldS Cd 0 "lines" (qFrz (qDc true (iqAny (qUn (gFld C "edges") (qVar 1))) (gqName 5) qYes (qVar 5) (qCB gTuple (bCons (qIxU (qVar 3) (qVar 5)) bNil)) [5]))))))))
def q_are_opposite (C : Addr) : QS := (sRet (qOrV (vChain gLt gLt (qVar 0) (qC (.int (0))) (qVar 1)) (vChain gLt gLt (qVar 1) (qC (.int (0))) (qVar 0))))
def q_hits (C : Addr) : QS := (sSeq (sSet 3 (qC (.int (0))))
  (sSeq (sSet 4 (qCallK (g_offsets C) (aCons (qVar 0) (aCons (qVar 1) (aCons (qVar 2) aNil)))))
  (sSeq (sFor (iqEnum (aCons (qSl (qVar 2) (oSome (qC (.int (1)))) oNone) aNil)) (gqTup 2 (gqCons (gqName 5) (gqCons (gqName 6) gqNil))) (sIf (qTb (qCallK (g_are_opposite C) (aCons (qIxU (qVar 4) (qVar 5)) (aCons (qIxU (qVar 4) (qAdd (qVar 5) (qC (.int (1))))) aNil)))) (sSeq (sAsg (qCallK (g_offsets C) (aCons (qIxU (qVar 2) (qVar 5)) (aCons (qVar 6) (aCons (qLst (aCons (qVar 0) (aCons (qVar 1) aNil))) aNil)))) (gqTup 2 (gqCons (gqName 7) (gqCons (gqName 8) gqNil))))
  (sIf (qTb (qCallK (g_are_opposite C) (aCons (qVar 7) (aCons (qVar 8) aNil)))) (sAugAdd 3 (qC (.int (1)))) sNil)) sNil))
  (sRet (qVar 3)))))
def q_crossings (C Cd : Addr) : QS := (sSeq (sIf (qNot (qTb (qCallK (g_is_edge C) (aCons (qUn (gFld Cd "graph") (qVar 0)) (aCons (qVar 1) aNil))))) sNever sNil)
  (sSeq (sIf (qOr (qNot (qTb (qCallK (g_is_edge C) (aCons (qUn (gFld Cd "graph") (qVar 0)) (aCons (qVar 2) aNil))))) (qTst gEq (qVar 1) (qVar 2))) sNever sNil)
  (sSeq (sSet 3 (qCallK (g_path_of C) (aCons (qUn (gFld Cd "points") (qVar 0)) (aCons (qUn (gFld Cd "lines") (qVar 0)) (aCons (qVar 1) aNil)))))
  (sSeq (sSet 4 (qCallK (g_path_of C) (aCons (qUn (gFld Cd "points") (qVar 0)) (aCons (qUn (gFld Cd "lines") (qVar 0)) (aCons (qVar 2) aNil)))))
  (sRet (qCB gSum (bCons (qLc (iqZip (aCons (qVar 3) (aCons (qSl (qVar 3) (oSome (qC (.int (1)))) oNone) aNil))) (gqTup 2 (gqCons (gqName 5) (gqCons (gqName 6) gqNil))) qYes (qCallK (g_hits C) (aCons (qVar 5) (aCons (qVar 6) (aCons (qVar 4) aNil)))) [5, 6]) bNil)))))))
end CP
namespace CP
open PySem PySem.Spec PyProof.Rows L2
def encPt : Enc Pt := encP encI encI (fun a => by show PyData.depth (PV.toD (.int a)) ≤ 5; simp [PV.toD, PyData.depth]) (fun a => by show PyData.depth (PV.toD (.int a)) ≤ 5; simp [PV.toD, PyData.depth]) (fun a => by show NestedKey.depth (PV.nk (.int a)) ≤ 3; simp [PV.nk, NestedKey.depth]) (fun a => by show NestedKey.depth (PV.nk (.int a)) ≤ 3; simp [PV.nk, NestedKey.depth])
theorem shpPt (p : Pt) : Shp (pT p) := encPt.shp rfl
theorem pts_get {xs : List Str} {f : Str → Pt} {x : Str} (h : x ∈ xs) : pget (ptsD xs f) (.str x) = some (pT (f x)) := pget_fd encS h
theorem lin_get {ys : List Ed2} {bv : Ed2 → PV} {e : Ed2} (h : e ∈ ys) : pget (linD ys bv) (pE e) = some (bv e) := pget_fd encE h
theorem pts_fam (xs : List Str) (f : Str → Pt) (v : Str) : famB (ptsD xs f) (.str v) = true := by
  unfold famB ptsD
  rw [List.all_map]
  exact List.all_eq_true.mpr fun p _ => rfl
theorem lin_fam (ys : List Ed2) (bv : Ed2 → PV) (e : Ed2) : famB (linD ys bv) (pE e) = true := by
  unfold famB linD
  rw [List.all_map]
  exact List.all_eq_true.mpr fun p _ => rfl
theorem lin_key (e : Ed2) : keyA (pE e) = true := (show keyA (encE.f e) = true from rfl)
theorem near_abs {n : Int} (h : nearI n = true) : n.natAbs < 2 ^ 100 := by
  unfold nearI at h
  simp only [Bool.and_eq_true, decide_eq_true_eq] at h
  omega
theorem near_sub {m n : Int} (h1 : nearI m = true) (h2 : nearI n = true) : (m - n).natAbs < 2 ^ 101 := by
  have a := near_abs h1
  have b := near_abs h2
  omega
theorem near_mul {m n k : Int} (h1 : nearI m = true) (h2 : nearI n = true) (h3 : nearI k = true) : CMulW (m - n) k := wide_mul (near_sub h1 h2) (near_abs h3) (by decide) (by decide) (by decide)
theorem near_1 {p : Pt} (h : nearB p = true) : nearI p.1 = true := ((Bool.and_eq_true _ _).mp h).1
theorem near_2 {p : Pt} (h : nearB p = true) : nearI p.2 = true := ((Bool.and_eq_true _ _).mp h).2
theorem hq_is_coordinate (C : Addr) : ∀ ss Q, g_is_coordinate C ss Q → q_is_coordinate C (bodyEnds 1 Q) (startE 1 ss) := by
  rintro _ Q ⟨n, hn, rfl, h⟩
  have e : decide ((if n < 0 then -n else n) ≤ 1000000000000000000000000000000) = true := by
    unfold nearI at hn
    simp only [Bool.and_eq_true, decide_eq_true_eq] at hn ⊢
    split <;> omega
  conv => whnf
  refine ⟨trivial, by decide, ?_⟩
  conv => whnf
  refine ⟨trivial, by decide, ?_⟩
  conv => whnf
  show Q (.sh (.bl (decide ((if n < 0 then -n else n) ≤ 1000000000000000000000000000000)))) _
  rw [e]
  exact h
theorem hq_is_place (C : Addr) : ∀ ss Q, g_is_place C ss Q → q_is_place C (bodyEnds 1 Q) (startE 1 ss) := by
  rintro _ Q ⟨p, hp, rfl, h⟩
  unfold nearB at hp
  rw [Bool.and_eq_true] at hp
  conv => whnf
  refine ⟨_, _, rfl, ?_⟩
  conv => whnf
  refine ⟨_, hp.1, rfl, ?_⟩
  conv => whnf
  refine ⟨_, hp.2, rfl, ?_⟩
  exact h
theorem hq_path_of (C : Addr) : ∀ ss Q, g_path_of C ss Q → q_path_of C (bodyEnds 3 Q) (startE 3 ss) := by
  rintro _ Q ⟨xs, f, ys, bv, b, e, ⟨h1, h2, h3, h4, h5, h6, h7⟩, hb, rfl, h⟩
  have row := hb.row e h5
  have few := hb.few e h5
  conv => whnf
  refine ⟨⟨rfl, pts_fam xs f _⟩, ?_⟩
  rw [pts_get h6]
  conv => whnf
  refine ⟨Nat.le_of_ble_eq_true rfl, ?_⟩
  conv => whnf
  refine ⟨rfl, ?_⟩
  conv => whnf
  refine ⟨⟨lin_key e, lin_fam ys bv e⟩, ?_⟩
  rw [lin_get h5]
  have fit : (b e).length ≤ SZ := Nat.le_trans few (by decide)
  rcases row with row | row <;> rw [row]
  all_goals
    conv => whnf
    refine ⟨by rw [List.length_map]; show 1 + _ ≤ SZ; exact Nat.le_trans (Nat.add_le_add_left few 1) (by decide), ?_⟩
    conv => whnf
    refine ⟨rfl, ?_⟩
    conv => whnf
    refine ⟨⟨rfl, pts_fam xs f _⟩, ?_⟩
    rw [pts_get h7]
    conv => whnf
    refine ⟨Nat.le_of_ble_eq_true rfl, ?_⟩
    conv => whnf
    refine ⟨by rw [List.length_append, List.length_map]; show 1 + (b e).length + 1 ≤ SZ; have : 62 ≤ SZ := by decide
               omega, ?_⟩
    rw [show (path f b e).map pT = [pT (f e.1)] ++ (b e).map pT ++ [pT (f e.2)] from by unfold path; simp] at h
    exact h
theorem hq_offsets (C : Addr) : ∀ ss Q, g_offsets C ss Q → q_offsets C (bodyEnds 3 Q) (startE 8 ss) := by
  rintro _ Q ⟨s, t, ps, few, ⟨n1, n2, n3⟩, rfl, h⟩
  conv => whnf
  refine ⟨trivial, ?_⟩
  conv => whnf
  refine ⟨trivial, ?_⟩
  conv => whnf
  refine ⟨near_mul (near_1 n2) (near_1 n1) (near_2 n1), ?_⟩
  conv => whnf
  refine ⟨near_mul (near_2 n2) (near_2 n1) (near_1 n1), ?_⟩
  conv => whnf
  refine ⟨trivial, ?_⟩
  conv => whnf
  refine ⟨by trivial, ?_⟩
  try simp only [wipeE, backE, stayV, startE, List.set_cons_zero, List.set_cons_succ, List.getElem?_cons_zero, List.getElem?_cons_succ, putB, putC, Sl.put, List.cons_append, List.nil_append, List.length_cons, List.length_nil, Nat.reduceAdd, Nat.reduceSub, List.replicate_succ, List.replicate_zero]
  refine runC_all pT (fun p => .int (offs s t p)) ps (fun p hp R R0 hR => ?_) ?_
  · have np := n3 p hp
    conv => whnf
    refine ⟨near_mul (near_1 n2) (near_1 n1) (near_2 np), ?_⟩
    conv => whnf
    refine ⟨near_mul (near_2 n2) (near_2 n1) (near_1 np), ?_⟩
    conv => whnf
    refine ⟨trivial, ?_⟩
    conv => whnf
    refine ⟨trivial, ?_⟩
    conv => whnf
    exact hR
  · exact h
theorem hq_are_opposite (C : Addr) : ∀ ss Q, g_are_opposite C ss Q → q_are_opposite C (bodyEnds 2 Q) (startE 2 ss) := by
  rintro _ Q ⟨a, b, rfl, h⟩
  conv => whnf
  by_cases c1 : a < 0
  · refine dec_yes (decide_eq_true c1) ?_
    conv => whnf
    by_cases c2 : 0 < b
    · refine dec_yes (decide_eq_true c2) ?_
      rw [show oppB a b = true from decide_eq_true (.inl ⟨c1, c2⟩)] at h
      exact h
    · refine dec_no (fun z => c2 (of_decide_eq_true z)) ?_
      conv => whnf
      by_cases c3 : b < 0
      · refine dec_yes (decide_eq_true c3) ?_
        conv => whnf
        show Q (.sh (.bl (decide (0 < a)))) _
        rw [show oppB a b = false from decide_eq_false (by omega), ← show decide ((0 : Int) < a) = false from decide_eq_false (by omega)] at h
        exact h
      · refine dec_no (fun z => c3 (of_decide_eq_true z)) ?_
        rw [show oppB a b = false from decide_eq_false (by omega)] at h
        exact h
  · refine dec_no (fun z => c1 (of_decide_eq_true z)) ?_
    conv => whnf
    by_cases c3 : b < 0
    · refine dec_yes (decide_eq_true c3) ?_
      conv => whnf
      show Q (.sh (.bl (decide (0 < a)))) _
      rw [show oppB a b = decide (0 < a) from by unfold oppB; rw [Bool.eq_iff_iff]; simp only [decide_eq_true_eq]; omega] at h
      exact h
    · refine dec_no (fun z => c3 (of_decide_eq_true z)) ?_
      rw [show oppB a b = false from decide_eq_false (by omega)] at h
      exact h
theorem all_tt {α : Type} (xs : List α) : (xs.map fun _ => true).all _root_.id = true := by rw [List.all_map]; exact List.all_eq_true.mpr fun _ _ => rfl
theorem hq_are_bends (C : Addr) : ∀ ss Q, g_are_bends C ss Q → q_are_bends C (bodyEnds 1 Q) (startE 2 ss) := by
  rintro _ Q ⟨v, bs, hv, few, near, rfl, h⟩
  obtain ⟨ty, rw1⟩ := isRow_ty hv
  have fit : bs.length ≤ SZ := Nat.le_trans few (by decide)
  rcases hv with rfl | rfl
  all_goals
    conv => whnf
    refine ⟨_, ty, rfl, ?_⟩
    conv => whnf
    refine dec_yes (decide_eq_true (by rw [List.length_map]; show (bs.length : Int) ≤ 60; omega)) ?_
    conv => whnf
    refine ⟨rfl, ?_⟩
    refine runC_all pT (fun _ => .bl true) bs (fun p hp R R0 hR => ?_) ?_
    · conv => whnf
      exact ⟨p, near p hp, rfl, hR⟩
    · conv => whnf
      refine ⟨rfl, ?_⟩
      conv => whnf
      rw [blsOf_mapf]
      conv => whnf
      try dsimp only
      rw [all_tt]
      exact h
theorem itemsP_pts (xs : List Str) (f : Str → Pt) : itemsP (ptsD xs f) = xs.map fun x => .tup [.str x, pT (f x)] := by unfold itemsP ptsD; rw [List.map_map]; rfl
theorem itemsP_lin (ys : List Ed2) (bv : Ed2 → PV) : itemsP (linD ys bv) = ys.map fun e => .tup [pE e, bv e] := by unfold itemsP linD; rw [List.map_map]; rfl
theorem hq_are_points (C : Addr) : ∀ ss Q, g_are_points C ss Q → q_are_points C (bodyEnds 2 Q) (startE 4 ss) := by
  rintro _ Q ⟨ns, es, xs, f, hg, pm, near, rfl, h⟩
  have n8 := hg.n8
  have len : (ptsD xs f).length = ns.length := by unfold ptsD; rw [List.length_map, pm.length_eq]
  have fit : (ptsD xs f).length ≤ SZ := by rw [len]; exact Nat.le_trans n8 (by decide)
  conv => whnf
  refine ⟨by decide, ?_⟩
  conv => whnf
  refine ⟨fit, ?_⟩
  conv => whnf
  refine ⟨rfl, ?_⟩
  conv => whnf
  refine dec_no (fun z => ?_) ?_
  · rw [List.length_map, len, decide_eq_true rfl] at z; cases z
  conv => whnf
  refine ⟨fit, ?_⟩
  conv => whnf
  refine ⟨rfl, ?_⟩
  rw [itemsP_pts]
  try simp only [wipeE, backE, stayV, startE, List.set_cons_zero, List.set_cons_succ, List.getElem?_cons_zero, List.getElem?_cons_succ, putB, putC, Sl.put, List.cons_append, List.nil_append, List.length_cons, List.length_nil, Nat.reduceAdd, Nat.reduceSub, List.replicate_succ, List.replicate_zero]
  refine runC_all (fun x => .tup [.str x, pT (f x)]) (fun _ => .bl true) xs (fun x hx R R0 hR => ?_) ?_
  · have hn : x ∈ ns := pm.mem_iff.mp hx
    conv => whnf
    refine ⟨rfl, ?_⟩
    conv => whnf
    refine ⟨_, ns, x, ⟨hg.toVsOk.oks, name_ok (hg.nm x hn)⟩, .inr rfl, rfl, ?_⟩
    rw [decide_eq_true hn]
    conv => whnf
    refine ⟨f x, near x hn, rfl, ?_⟩
    exact hR
  · conv => whnf
    refine ⟨rfl, ?_⟩
    conv => whnf
    rw [blsOf_mapf]
    conv => whnf
    try dsimp only
    rw [all_tt]
    exact h
theorem hq_are_lines (C : Addr) : ∀ ss Q, g_are_lines C ss Q → q_are_lines C (bodyEnds 2 Q) (startE 4 ss) := by
  rintro _ Q ⟨ns, es, ys, bv, b, hg, pm, hb, rfl, h⟩
  have n18 := hg.e18
  have len : (linD ys bv).length = es.length := by unfold linD; rw [List.length_map, pm.length_eq]
  have fit : (linD ys bv).length ≤ SZ := by rw [len]; exact Nat.le_trans n18 (by decide)
  conv => whnf
  refine ⟨by decide, ?_⟩
  conv => whnf
  refine ⟨fit, ?_⟩
  conv => whnf
  refine ⟨rfl, ?_⟩
  conv => whnf
  refine dec_no (fun z => ?_) ?_
  · rw [List.length_map, len, decide_eq_true rfl] at z; cases z
  conv => whnf
  refine ⟨fit, ?_⟩
  conv => whnf
  refine ⟨rfl, ?_⟩
  rw [itemsP_lin]
  try simp only [wipeE, backE, stayV, startE, List.set_cons_zero, List.set_cons_succ, List.getElem?_cons_zero, List.getElem?_cons_succ, putB, putC, Sl.put, List.cons_append, List.nil_append, List.length_cons, List.length_nil, Nat.reduceAdd, Nat.reduceSub, List.replicate_succ, List.replicate_zero]
  refine runC_all (fun e => .tup [pE e, bv e]) (fun _ => .bl true) ys (fun e he R R0 hR => ?_) ?_
  · have hn : e ∈ es := pm.mem_iff.mp he
    conv => whnf
    refine ⟨ns, es, e, hg, hg.toGrIn.okE hn, rfl, ?_⟩
    rw [decide_eq_true hn]
    conv => whnf
    refine ⟨bv e, b e, hb.row e hn, hb.few e hn, hb.near e hn, rfl, ?_⟩
    exact hR
  · conv => whnf
    refine ⟨rfl, ?_⟩
    conv => whnf
    rw [blsOf_mapf]
    conv => whnf
    try dsimp only
    rw [all_tt]
    exact h
end CP
namespace CP
open PySem PySem.Spec PyProof.Rows L2
theorem srt2i (a b : Int) : sortP [.int a, .int b] = [.int (min a b), .int (max a b)] := by
  have := encI.sortP [a, b]
  rw [show [a, b].map encI.f = [.int a, .int b] from rfl] at this
  rw [this]
  by_cases e : a = b
  · subst e
    rw [Int.min_self, Int.max_self]
    have p := encI.srtd_perm [a, a]
    have : encI.srtd [a, a] = [a, a] := by
      have h := p.length_eq
      match c : encI.srtd [a, a], h with
      | [x, y], _ =>
        rw [c] at p
        have hx : x ∈ [a, a] := p.mem_iff.mp (by simp)
        have hy : y ∈ [a, a] := p.mem_iff.mp (by simp)
        simp at hx hy
        rw [hx, hy]
    rw [this]; rfl
  · rw [srt2 e]
    split
    · rw [Int.min_eq_left (by omega), Int.max_eq_right (by omega)]; rfl
    · rw [Int.min_eq_right (by omega), Int.max_eq_left (by omega)]; rfl
theorem atI_map {α : Type} (g : α → PV) {xs : List α} {j : Nat} {x : α} (h : xs[j]? = some x) : atI (xs.map g) (j : Int) = some (g x) := by
  have hl := (List.getElem?_eq_some_iff.mp h).1
  unfold atI
  rw [ixN_natQ (by rw [List.length_map]; exact hl)]
  show (xs.map g)[j]? = _
  rw [List.getElem?_map, h]; rfl
theorem NearOk.path {ns : List Str} {es : List Ed2} {f : Str → Pt} {b : Ed2 → List Pt} (nr : NearOk ns es f b) {e : Ed2} (he : e ∈ es) (h1 : e.1 ∈ ns) (h2 : e.2 ∈ ns) : ∀ p ∈ path f b e, nearB p = true := fun p hp => by
  unfold CP.path at hp
  rcases List.mem_cons.mp hp with rfl | hp
  · exact nr.pts _ h1
  · rcases List.mem_append.mp hp with hp | hp
    · exact nr.bds e he p hp
    · rw [List.mem_singleton] at hp; subst hp; exact nr.pts _ h2
theorem coupled_segs (ps : List Pt) : coupled (ps.map pT) ((ps.drop 1).map pT) = (segs ps).map fun q => .tup [pT q.1, pT q.2] := by
  unfold coupled segs
  rw [List.zipWith_map]
  show _ = (List.zipWith Prod.mk _ _).map _
  rw [List.map_zipWith]
theorem seg_step {ps rest : List Pt} {k : Nat} {v : Pt} (h : (ps.drop 1).drop k = v :: rest) : ∃ u, ps[k]? = some u ∧ ps[k + 1]? = some v ∧ (ps.drop 1).drop (k + 1) = rest ∧ (segs ps).drop k = (u, v) :: (segs ps).drop (k + 1) := by
  have hv : ps[k + 1]? = some v := by
    have : ((ps.drop 1).drop k)[0]? = some v := by rw [h]; rfl
    rw [List.getElem?_drop, List.getElem?_drop] at this
    rw [← this]; congr 1; omega
  have lt := (List.getElem?_eq_some_iff.mp hv).1
  refine ⟨ps[k], List.getElem?_eq_getElem (by omega), hv, ?_, ?_⟩
  · have : (ps.drop 1).drop (k + 1) = ((ps.drop 1).drop k).drop 1 := by
      simp only [List.drop_drop]
      congr 1
    rw [this, h]; rfl
  · have hl : k < (segs ps).length := by unfold segs; rw [List.length_zip, List.length_drop]; omega
    rw [List.drop_eq_getElem_cons hl]
    have : (segs ps)[k] = (ps[k], v) := by
      have e1 : (segs ps)[k]? = some (ps[k], v) := by
        unfold segs
        rw [List.getElem?_zip_eq_some]
        exact ⟨List.getElem?_eq_getElem (by omega), by rw [List.getElem?_drop, Nat.add_comm]; exact hv⟩
      rw [List.getElem?_eq_getElem hl] at e1
      exact Option.some.inj e1
    rw [this]
theorem segs_mem {ps : List Pt} {q : Pt × Pt} (h : q ∈ segs ps) : q.1 ∈ ps ∧ q.2 ∈ ps := by
  unfold segs at h
  exact ⟨(List.of_mem_zip h).1, List.mem_of_mem_drop (List.of_mem_zip h).2⟩
theorem hq_others_in_box (C : Addr) : ∀ ss Q, g_others_in_box C ss Q → q_others_in_box C (bodyEnds 3 Q) (startE 11 ss) := by
  rintro _ Q ⟨s, t, ps, few, rfl, h⟩
  conv => whnf
  refine ⟨Nat.le_of_ble_eq_true rfl, ?_⟩
  conv => whnf
  refine ⟨by first | exact Nat.le_of_ble_eq_true rfl | trivial, ?_⟩
  conv => whnf
  refine ⟨encI.sortd [s.1, t.1], ?_⟩
  rw [srt2i]
  conv => whnf
  refine ⟨rfl, ?_⟩
  conv => whnf
  refine ⟨Nat.le_of_ble_eq_true rfl, ?_⟩
  conv => whnf
  refine ⟨by first | exact Nat.le_of_ble_eq_true rfl | trivial, ?_⟩
  conv => whnf
  refine ⟨encI.sortd [s.2, t.2], ?_⟩
  rw [srt2i]
  conv => whnf
  refine ⟨rfl, ?_⟩
  conv => whnf
  refine ⟨rfl, ?_⟩
  try simp only [wipeE, backE, stayV, startE, List.set_cons_zero, List.set_cons_succ, List.getElem?_cons_zero, List.getElem?_cons_succ, putB, putC, Sl.put, List.cons_append, List.nil_append, List.length_cons, List.length_nil, Nat.reduceAdd, Nat.reduceSub, List.replicate_succ, List.replicate_zero]
  refine runC_sel pT (fun p => decide (min s.1 t.1 ≤ p.1 ∧ p.1 ≤ max s.1 t.1) && decide (min s.2 t.2 ≤ p.2 ∧ p.2 ≤ max s.2 t.2)) pT ps (fun p hp R R0 h1 h0 => ?_) ?_
  · have i1 : 7 = 7 := rfl
    generalize min s.1 t.1 = l1 at h1 h0 ⊢
    generalize max s.1 t.1 = l2 at h1 h0 ⊢
    generalize min s.2 t.2 = l3 at h1 h0 ⊢
    generalize max s.2 t.2 = l4 at h1 h0 ⊢
    have yes := fun (z : l1 ≤ p.1 ∧ p.1 ≤ l2) (z' : l3 ≤ p.2 ∧ p.2 ≤ l4) => h1 (by rw [decide_eq_true z, decide_eq_true z']; rfl)
    have no1 := fun (z : ¬ (l1 ≤ p.1 ∧ p.1 ≤ l2)) => h0 (by rw [decide_eq_false z]; rfl)
    have no2 := fun (z : ¬ (l3 ≤ p.2 ∧ p.2 ≤ l4)) => h0 (by rw [decide_eq_false z, Bool.and_false])
    clear h1 h0
    conv => whnf
    by_cases c1 : l1 ≤ p.1
    · refine dec_yes (decide_eq_true c1) ?_
      conv => whnf
      by_cases c2 : p.1 ≤ l2
      · refine dec_yes (decide_eq_true c2) ?_
        conv => whnf
        by_cases c3 : l3 ≤ p.2
        · refine dec_yes (decide_eq_true c3) ?_
          conv => whnf
          by_cases c4 : p.2 ≤ l4
          · refine dec_yes (decide_eq_true c4) ?_
            conv => whnf
            refine ⟨Nat.le_of_ble_eq_true rfl, ?_⟩
            exact yes ⟨c1, c2⟩ ⟨c3, c4⟩
          · refine dec_no (fun z => c4 (of_decide_eq_true z)) ?_
            exact no2 fun z => c4 z.2
        · refine dec_no (fun z => c3 (of_decide_eq_true z)) ?_
          exact no2 fun z => c3 z.1
      · refine dec_no (fun z => c2 (of_decide_eq_true z)) ?_
        exact no1 fun z => c2 z.2
    · refine dec_no (fun z => c1 (of_decide_eq_true z)) ?_
      exact no1 fun z => c1 z.1
  · generalize hg : ps.filter _ = bs
    conv => whnf
    refine ⟨rfl, ?_⟩
    conv => whnf
    refine ⟨rfl, ?_⟩
    try simp only [wipeE, backE, stayV, startE, List.set_cons_zero, List.set_cons_succ, List.getElem?_cons_zero, List.getElem?_cons_succ, putB, putC, Sl.put, List.cons_append, List.nil_append, List.length_cons, List.length_nil, Nat.reduceAdd, Nat.reduceSub, List.replicate_succ, List.replicate_zero]
    refine runC_sel pT (fun p => decide (p ≠ s) && decide (p ≠ t)) pT bs (fun p hp R R0 h1 h0 => ?_) ?_
    · conv => whnf
      refine ⟨shpPt p, shpPt s, ?_⟩
      rw [show PyData.eqv (PV.toD (pT p)) (PV.toD (pT s)) = decide (p = s) from encPt.eqv p s]
      by_cases c1 : p = s
      · rw [decide_eq_true c1]
        exact h0 (by rw [decide_eq_false (fun z => z c1)]; rfl)
      · rw [decide_eq_false c1]
        conv => whnf
        refine ⟨shpPt p, shpPt t, ?_⟩
        rw [show PyData.eqv (PV.toD (pT p)) (PV.toD (pT t)) = decide (p = t) from encPt.eqv p t]
        by_cases c2 : p = t
        · rw [decide_eq_true c2]
          exact h0 (by rw [decide_eq_false (fun (z : p ≠ t) => z c2), Bool.and_false])
        · rw [decide_eq_false c2]
          exact h1 (by rw [decide_eq_true c1, decide_eq_true c2]; rfl)
    · have eb : boxed s t ps = bs.filter fun p => decide (p ≠ s) && decide (p ≠ t) := by
        rw [← hg, List.filter_filter]
        unfold boxed
        refine List.filter_congr fun p _ => ?_
        unfold boxB
        exact Bool.and_comm _ _
      rw [eb] at h
      exact h
theorem hq_hits (C : Addr) : ∀ ss Q, g_hits C ss Q → q_hits C (bodyEnds 3 Q) (startE 9 ss) := by
  rintro _ Q ⟨s, t, ps, few, near, rfl, h⟩
  conv => whnf
  refine ⟨s, t, ps, few, near, rfl, ?_⟩
  conv => whnf
  rw [show cutP (ps.map pT) (some 1) none = (ps.drop 1).map pT from cut_drop' pT ps 1]
  refine ⟨rfl, ?_⟩
  conv => whnf
  rw [numbered_map]
  try simp only [wipeE, backE, stayV, startE, List.set_cons_zero, List.set_cons_succ, List.getElem?_cons_zero, List.getElem?_cons_succ, putB, putC, Sl.put, List.cons_append, List.nil_append, List.length_cons, List.length_nil, Nat.reduceAdd, Nat.reduceSub, List.replicate_succ, List.replicate_zero]
  refine runF_rec (fun x : Pt × Nat => .tup [.int (x.2 : Nat), pT x.1]) (fun todo e => ∃ (k c : Nat) (s4 s5 s6 s7 s8 : Sl), todo = ((ps.drop 1).drop k).zipIdx k ∧ c + (((segs ps).drop k).filter fun q => crossB s t q.1 q.2).length = hitsN s t ps ∧ e = [.val (pT s), .val (pT t), .val (.lst (ps.map pT)), .val (.int (c : Nat)), s4, s5, s6, s7, s8] ∧ (s4 = .own (.lst (ps.map fun p => .int (offs s t p))) ∨ s4 = .val (.lst (ps.map fun p => .int (offs s t p)))) ∧ slB s5 = true ∧ slB s6 = true ∧ slB s7 = true ∧ slB s8 = true) _ _ ⟨0, 0, _, .no, .no, .no, .no, rfl, by rw [Nat.zero_add]; rfl, rfl, .inl rfl, rfl, rfl, rfl, rfl⟩ ?_ ?_
  · rintro ⟨v, j⟩ todo _ R ⟨k, c, s4, s5, s6, s7, s8, ht, hc, rfl, h4, m5, m6, m7, m8⟩ hR
    have tail : ∀ (n : Nat) (s4 s5 s6 s7 s8 : Sl), n + (((segs ps).drop (k + 1)).filter fun q => crossB s t q.1 q.2).length = hitsN s t ps → (s4 = .own (.lst (ps.map fun p => .int (offs s t p))) ∨ s4 = .val (.lst (ps.map fun p => .int (offs s t p)))) → slB s5 = true → slB s6 = true → slB s7 = true → slB s8 = true → todo = ((ps.drop 1).drop (k + 1)).zipIdx (k + 1) → R [.val (pT s), .val (pT t), .val (.lst (ps.map pT)), .val (.int (n : Nat)), s4, s5, s6, s7, s8] := fun n s4 s5 s6 s7 s8 a b m5 m6 m7 m8 z => hR _ ⟨k + 1, n, s4, s5, s6, s7, s8, z, a, rfl, b, m5, m6, m7, m8⟩
    clear hR
    cases hd : (ps.drop 1).drop k with
    | nil => rw [hd] at ht; cases ht
    | cons v' rest =>
      rw [hd, List.zipIdx_cons] at ht
      cases ht
      obtain ⟨u, g1, g2, g3, g4⟩ := seg_step hd
      rw [g3] at tail
      rw [g4, List.filter_cons] at hc
      have mu : u ∈ ps := List.mem_of_getElem? g1
      have mv : v ∈ ps := List.mem_of_getElem? g2
      have a1 := atI_map (fun p => PV.int (offs s t p)) g1
      have a2 := atI_map (fun p => PV.int (offs s t p)) g2
      have a3 := atI_map pT g1
      rcases h4 with rfl | rfl
      all_goals
        conv => whnf
        refine free_go (m5) ?_
        conv => whnf
        refine free_go (m6) ?_
        conv => whnf
        rw [a1]
        conv => whnf
        rw [show (j : Int) + 1 = ((j + 1 : Nat) : Int) from rfl, a2]
        conv => whnf
        refine ⟨_, _, rfl, ?_⟩
        cases c1 : oppB (offs s t u) (offs s t v) with
        | false =>
          have hc : c + (List.filter (fun q => crossB s t q.1 q.2) (List.drop (j + 1) (segs ps))).length = hitsN s t ps := by
            rw [← hc, if_neg]; unfold crossB; rw [c1]; simp
          conv => whnf
          try simp only [wipeE, backE, stayV, startE, List.set_cons_zero, List.set_cons_succ, List.getElem?_cons_zero, List.getElem?_cons_succ, putB, putC, Sl.put, List.cons_append, List.nil_append, List.length_cons, List.length_nil, Nat.reduceAdd, Nat.reduceSub, List.replicate_succ, List.replicate_zero]
          exact tail c _ _ _ _ _ hc (by first | exact .inl rfl | exact .inr rfl) rfl rfl m7 m8 rfl
        | true =>
          conv => whnf
          rw [a3]
          conv => whnf
          refine ⟨Nat.le_of_ble_eq_true rfl, ?_⟩
          conv => whnf
          refine ⟨rfl, ?_⟩
          conv => whnf
          refine ⟨u, v, [s, t], (by show 2 ≤ 1000; decide), ⟨near.2.2 u mu, near.2.2 v mv, fun p hp => ?_⟩, rfl, ?_⟩
          · rcases List.mem_cons.mp hp with rfl | hp
            · exact near.1
            · rw [List.mem_singleton] at hp; subst hp; exact near.2.1
          conv => whnf
          refine ⟨rfl, ?_⟩
          conv => whnf
          refine free_go (m7) ?_
          conv => whnf
          refine free_go (m8) ?_
          conv => whnf
          refine ⟨_, _, rfl, ?_⟩
          cases c2 : oppB (offs u v s) (offs u v t) with
          | false =>
            have hc : c + (List.filter (fun q => crossB s t q.1 q.2) (List.drop (j + 1) (segs ps))).length = hitsN s t ps := by
              rw [← hc, if_neg]; unfold crossB; rw [c2]; simp
            conv => whnf
            try simp only [wipeE, backE, stayV, startE, List.set_cons_zero, List.set_cons_succ, List.getElem?_cons_zero, List.getElem?_cons_succ, putB, putC, Sl.put, List.cons_append, List.nil_append, List.length_cons, List.length_nil, Nat.reduceAdd, Nat.reduceSub, List.replicate_succ, List.replicate_zero]
            exact tail c _ _ _ _ _ hc (by first | exact .inl rfl | exact .inr rfl) rfl rfl rfl rfl rfl
          | true =>
            have hc : (c + 1) + (List.filter (fun q => crossB s t q.1 q.2) (List.drop (j + 1) (segs ps))).length = hitsN s t ps := by
              rw [if_pos (by unfold crossB; rw [c1, c2]; rfl), List.length_cons] at hc
              omega
            conv => whnf
            try simp only [wipeE, backE, stayV, startE, List.set_cons_zero, List.set_cons_succ, List.getElem?_cons_zero, List.getElem?_cons_succ, putB, putC, Sl.put, List.cons_append, List.nil_append, List.length_cons, List.length_nil, Nat.reduceAdd, Nat.reduceSub, List.replicate_succ, List.replicate_zero]
            refine ⟨trivial, ?_⟩
            exact tail (c + 1) _ _ _ _ _ hc (by first | exact .inl rfl | exact .inr rfl) rfl rfl rfl rfl rfl
  · rintro _ ⟨k, c, s4, s5, s6, s7, s8, ht, hc, rfl, h4, m5, m6, m7, m8⟩
    have : (segs ps).drop k = [] := by
      have z : (ps.drop 1).drop k = [] := by
        cases hd : (ps.drop 1).drop k with
        | nil => rfl
        | cons v r => rw [hd, List.zipIdx_cons] at ht; cases ht
      have := congrArg List.length z
      rw [List.length_drop, List.length_drop, List.length_nil] at this
      refine List.drop_eq_nil_of_le ?_
      unfold segs
      rw [List.length_zip, List.length_drop]; omega
    rw [this] at hc
    have hc : c = hitsN s t ps := hc
    subst hc
    rcases h4 with rfl | rfl <;> exact h
theorem hq_crossings (C Cd : Addr) : ∀ ss Q, g_crossings C Cd ss Q → q_crossings C Cd (bodyEnds 3 Q) (startE 7 ss) := by
  rintro _ Q ⟨ns, es, f, b, e1, e2, hg, nr, m1, m2, ne, rfl, h⟩
  have l1 := (hg.ed _ m1).l
  have l2 := (hg.ed _ m1).r
  have l3 := (hg.ed _ m2).l
  have l4 := (hg.ed _ m2).r
  have bd : BdOk es (fun e => .tup ((b e).map pT)) b := ⟨fun e he => .inr rfl, nr.few, nr.bds⟩
  conv => whnf
  refine ⟨rfl, ?_⟩
  conv => whnf
  refine ⟨ns, es, e1, hg, hg.toGrIn.okE m1, rfl, ?_⟩
  rw [decide_eq_true m1]
  conv => whnf
  refine ⟨rfl, ?_⟩
  conv => whnf
  refine ⟨ns, es, e2, hg, hg.toGrIn.okE m2, rfl, ?_⟩
  rw [decide_eq_true m2]
  conv => whnf
  refine ⟨shpE (hg.toGrIn.okE m1), shpE (hg.toGrIn.okE m2), ?_⟩
  rw [show PyData.eqv (PV.toD (pE e1)) (PV.toD (pE e2)) = false from (encE.eqv e1 e2).trans (decide_eq_false ne)]
  conv => whnf
  refine ⟨rfl, ?_⟩
  conv => whnf
  refine ⟨rfl, ?_⟩
  conv => whnf
  refine ⟨ns, f, es, _, b, e1, ⟨hg.nd, hg.n8, hg.end_, hg.e18, m1, l1, l2⟩, bd, rfl, ?_⟩
  conv => whnf
  refine ⟨rfl, ?_⟩
  conv => whnf
  refine ⟨rfl, ?_⟩
  conv => whnf
  refine ⟨ns, f, es, _, b, e2, ⟨hg.nd, hg.n8, hg.end_, hg.e18, m2, l3, l4⟩, bd, rfl, ?_⟩
  have n1 : ∀ p ∈ path f b e1, nearB p = true := nr.path m1 l1 l2
  have n2 : ∀ p ∈ path f b e2, nearB p = true := nr.path m2 l3 l4
  have f2 : (path f b e2).length ≤ 1000 := by
    have := nr.few e2 m2
    simp only [path, List.length_cons, List.length_append, List.length_nil]; omega
  have ec : crossN f b e1 e2 = ((segs (path f b e1)).map fun s => hitsN s.1 s.2 (path f b e2)).sum := rfl
  rw [ec] at h
  generalize path f b e1 = p1 at *
  generalize path f b e2 = p2 at *
  conv => whnf
  refine ⟨rfl, ?_⟩
  conv => whnf
  rw [show cutP (p1.map pT) (some 1) none = (p1.drop 1).map pT from cut_drop' pT p1 1]
  refine ⟨rfl, ?_⟩
  conv => whnf
  rw [show coupled (p1.map pT) ((p1.drop 1).map pT) = (segs p1).map fun q => .tup [pT q.1, pT q.2] from coupled_segs p1]
  refine ⟨rfl, ?_⟩
  try simp only [wipeE, backE, stayV, startE, List.set_cons_zero, List.set_cons_succ, List.getElem?_cons_zero, List.getElem?_cons_succ, putB, putC, Sl.put, List.cons_append, List.nil_append, List.length_cons, List.length_nil, Nat.reduceAdd, Nat.reduceSub, List.replicate_succ, List.replicate_zero]
  refine runC_rec (fun q : Pt × Pt => .tup [pT q.1, pT q.2]) (fun todo acc e => (∀ q ∈ todo, q ∈ segs p1) ∧ acc ++ todo.map (fun q => .int (hitsN q.1 q.2 p2 : Nat)) = (segs p1).map (fun q => .int (hitsN q.1 q.2 p2 : Nat)) ∧ (e = [.val (pDr C Cd ns es f b), .val (pE e1), .val (pE e2), .val (.lst (p1.map pT)), .own (.lst (p2.map pT)), .no, .no] ∨ e = [.val (pDr C Cd ns es f b), .val (pE e1), .val (pE e2), .val (.lst (p1.map pT)), .val (.lst (p2.map pT)), .no, .no])) _ _ _ ⟨fun q h => h, rfl, .inl rfl⟩ ?_ ?_
  · rintro q todo acc e R R0 ⟨hm, ha, he⟩ hR _
    obtain ⟨w1, w2⟩ := segs_mem (hm q List.mem_cons_self)
    have go : ∀ e', (e' = [.val (pDr C Cd ns es f b), .val (pE e1), .val (pE e2), .val (.lst (p1.map pT)), .own (.lst (p2.map pT)), .no, .no] ∨ e' = [.val (pDr C Cd ns es f b), .val (pE e1), .val (pE e2), .val (.lst (p1.map pT)), .val (.lst (p2.map pT)), .no, .no]) → R (.int (hitsN q.1 q.2 p2 : Nat)) e' := fun e' z => hR _ _ ⟨fun x hx => hm x (List.mem_cons_of_mem _ hx), by rw [List.append_assoc]; exact ha, z⟩
    rcases he with rfl | rfl
    · conv => whnf
      refine ⟨rfl, ?_⟩
      conv => whnf
      refine ⟨q.1, q.2, p2, f2, ⟨n1 _ w1, n1 _ w2, n2⟩, rfl, ?_⟩
      conv => whnf
      exact go _ (.inr rfl)
    · conv => whnf
      refine ⟨q.1, q.2, p2, f2, ⟨n1 _ w1, n1 _ w2, n2⟩, rfl, ?_⟩
      conv => whnf
      exact go _ (.inr rfl)
  · rintro acc e ⟨_, ha, he⟩
    rw [List.map_nil, List.append_nil] at ha
    subst ha
    rcases he with rfl | rfl
    all_goals
      conv => whnf
      refine ⟨rfl, ?_⟩
      conv => whnf
      rw [intsOf_mapf]
      conv => whnf
      rw [sum_cast]
      exact h
end CP
namespace CP
open PySem PySem.Spec PyProof.Rows L2
theorem keyB_pT (p : Pt) : PV.keyB (pT p) = true := by
  unfold PV.keyB
  rw [Bool.and_eq_true, Bool.and_eq_true]
  exact ⟨⟨encPt.kk p, decide_eq_true (Nat.le_trans (encPt.kd p) (by decide))⟩, rfl⟩
theorem allPt (xs : List Pt) : (xs.map pT).all PV.keyB = true := by rw [List.all_map]; exact List.all_eq_true.mpr fun e _ => keyB_pT e
theorem path_in {ns : List Str} {es : List Ed2} {f : Str → Pt} {b : Ed2 → List Pt} {e : Ed2} (he : e ∈ es) (h1 : e.1 ∈ ns) (h2 : e.2 ∈ ns) : ∀ p ∈ path f b e, p ∈ places ns es f b := fun p hp => by
  unfold path at hp
  unfold places
  rcases List.mem_cons.mp hp with rfl | hp
  · exact List.mem_append_left _ (List.mem_map_of_mem h1)
  · rcases List.mem_append.mp hp with hp | hp
    · exact List.mem_append_right _ (List.mem_flatMap.mpr ⟨e, he, hp⟩)
    · rw [List.mem_singleton] at hp; subst hp; exact List.mem_append_left _ (List.mem_map_of_mem h2)
theorem hq_are_in_general_position (C : Addr) : ∀ ss Q, g_are_in_general_position C ss Q → q_are_in_general_position C (bodyEnds 3 Q) (startE 9 ss) := by
  rintro _ Q ⟨ns, es, xs, f, ys, bv, b, hg, pm, pe, near, hb, gp, rfl, h⟩
  conv => whnf
  refine ⟨rfl, ?_⟩
  conv => whnf
  refine ⟨rfl, ?_⟩
  try simp only [wipeE, backE, stayV, startE, List.set_cons_zero, List.set_cons_succ, List.getElem?_cons_zero, List.getElem?_cons_succ, putB, putC, Sl.put, List.cons_append, List.nil_append, List.length_cons, List.length_nil, Nat.reduceAdd, Nat.reduceSub, List.replicate_succ, List.replicate_zero]
  refine runC_all PV.str (fun x => pT (f x)) ns (fun x hx R R0 hR => ?_) ?_
  · conv => whnf
    refine ⟨⟨rfl, pts_fam xs f _⟩, ?_⟩
    rw [pts_get (pm.mem_iff.mpr hx)]
    exact hR
  have ep : ns.map (fun x => pT (f x)) = (ns.map f ++ ([] : List Ed2).flatMap b).map pT := by rw [List.flatMap_nil, List.append_nil, List.map_map]; rfl
  conv => whnf
  refine ⟨rfl, ?_⟩
  rw [ep]
  conv => whnf
  try simp only [wipeE, backE, stayV, startE, List.set_cons_zero, List.set_cons_succ, List.getElem?_cons_zero, List.getElem?_cons_succ, putB, putC, Sl.put, List.cons_append, List.nil_append, List.length_cons, List.length_nil, Nat.reduceAdd, Nat.reduceSub, List.replicate_succ, List.replicate_zero]
  refine runF_rec pE (fun todo e => ∃ (dn : List Ed2) (s5 : Sl), dn ++ todo = es ∧ e = [.val (pG C ns es), .val (.dic (ptsD xs f)), .val (.dic (linD ys bv)), .no, .own (.lst ((ns.map f ++ dn.flatMap b).map pT)), s5, .no, .no, .no] ∧ slB s5 = true) _ _ ⟨[], .no, rfl, rfl, rfl⟩ ?_ ?_
  · rintro x todo _ R ⟨dn, s5, ht, rfl, m5⟩ hR
    have hx : x ∈ es := ht ▸ List.mem_append_right _ List.mem_cons_self
    have row := hb.row x hx
    have few := hb.few x hx
    have go : R [.val (pG C ns es), .val (.dic (ptsD xs f)), .val (.dic (linD ys bv)), .no, .own (.lst ((ns.map f ++ dn.flatMap b).map pT ++ (b x).map pT)), .val (pE x), .no, .no, .no] := hR _ ⟨dn ++ [x], _, by rw [List.append_assoc]; exact ht, by rw [← List.map_append, List.append_assoc, List.flatMap_append, List.flatMap_singleton], rfl⟩
    clear hR
    have lb : ((ns.map f ++ dn.flatMap b).map pT).length + ((b x).map pT).length ≤ SZ := by
      have h1 := gp.few
      have : (ns.map f ++ dn.flatMap b ++ b x).length ≤ (places ns es f b).length := by
        unfold places
        rw [← ht, List.flatMap_append, List.flatMap_cons]
        simp only [List.length_append]
        omega
      rw [List.length_map, List.length_map]
      rw [List.length_append] at this
      have : 300 ≤ SZ := by decide
      omega
    generalize (ns.map f ++ dn.flatMap b).map pT = A at *
    conv => whnf
    refine free_go (m5) ?_
    conv => whnf
    refine ⟨⟨lin_key x, lin_fam ys bv x⟩, ?_⟩
    rw [lin_get (pe.mem_iff.mpr hx)]
    rcases row with row | row <;> rw [row]
    all_goals
      conv => whnf
      refine ⟨⟨lb, fun z => nomatch z⟩, ?_⟩
      exact go
  rintro _ ⟨dn, s5, ht, rfl, m5⟩
  rw [List.append_nil] at ht
  subst ht
  have nd := gp.nd
  have few := gp.few
  have off := gp.off
  have nA : ∀ p ∈ places ns dn f b, nearB p = true := fun p hp => by
    unfold places at hp
    rcases List.mem_append.mp hp with hp | hp
    · obtain ⟨x, hx, rfl⟩ := List.mem_map.mp hp; exact near x hx
    · obtain ⟨x, hx, hp⟩ := List.mem_flatMap.mp hp; exact hb.near x hx p hp
  have pA : ∀ e ∈ dn, ∀ p ∈ path f b e, p ∈ places ns dn f b := fun e he => path_in he (hg.ed e he).l (hg.ed e he).r
  have en : places ns dn f b = ns.map f ++ dn.flatMap b := rfl
  rw [← en]
  clear en ep
  generalize places ns dn f b = A at nd few off nA pA ⊢
  have lA : (A.map pT).length = A.length := List.length_map ..
  conv => whnf
  refine ⟨by rw [allPt, Bool.or_true], by rw [lA]; exact few, fun n h1 h2 => ?_⟩
  have e : n = A.length := by
    rw [lA] at h2
    exact h2.mpr ((nks_nd encPt).mpr nd)
  subst e
  conv => whnf
  refine dec_no (fun z => ?_) ?_
  · rw [lA, decide_eq_true rfl] at z; cases z
  conv => whnf
  refine ⟨rfl, ?_⟩
  conv => whnf
  try simp only [wipeE, backE, stayV, startE, List.set_cons_zero, List.set_cons_succ, List.getElem?_cons_zero, List.getElem?_cons_succ, putB, putC, Sl.put, List.cons_append, List.nil_append, List.length_cons, List.length_nil, Nat.reduceAdd, Nat.reduceSub, List.replicate_succ, List.replicate_zero]
  refine runF_rec pE (fun todo e => ∃ (s4 s5 s6 s7 s8 : Sl), (∀ x ∈ todo, x ∈ dn) ∧ e = [.val (pG C ns dn), .val (.dic (ptsD xs f)), .val (.dic (linD ys bv)), .no, s4, s5, s6, s7, s8] ∧ (s4 = .own (.lst (A.map pT)) ∨ s4 = .val (.lst (A.map pT))) ∧ slB s5 = true ∧ slB s6 = true ∧ slB s7 = true ∧ slB s8 = true) _ _ ⟨_, _, _, _, _, fun x h => h, rfl, .inl rfl, m5, rfl, rfl, rfl⟩ ?_ ?_
  · rintro x todo _ R ⟨s4, s5, s6, s7, s8, hm, rfl, h4, m5, m6, m7, m8⟩ hR
    have hx := hm x List.mem_cons_self
    have ed := hg.ed x hx
    have go : ∀ s4 s5 s6 s7 s8 : Sl, (s4 = .own (.lst (A.map pT)) ∨ s4 = .val (.lst (A.map pT))) → slB s5 = true → slB s6 = true → slB s7 = true → slB s8 = true → R [.val (pG C ns dn), .val (.dic (ptsD xs f)), .val (.dic (linD ys bv)), .no, s4, s5, s6, s7, s8] := fun s4 s5 s6 s7 s8 a b c d e => hR _ ⟨s4, s5, s6, s7, s8, fun x hx => hm x (List.mem_cons_of_mem _ hx), rfl, a, b, c, d, e⟩
    clear hR
    have px := pA x hx
    have ox := off x hx
    have bd : BdOk ys bv b := ⟨fun e he => hb.row e (pe.mem_iff.mp he), fun e he => hb.few e (pe.mem_iff.mp he), fun e he => hb.near e (pe.mem_iff.mp he)⟩
    have cd : xs.Nodup ∧ xs.length ≤ 8 ∧ ys.Nodup ∧ ys.length ≤ 18 ∧ x ∈ ys ∧ x.1 ∈ xs ∧ x.2 ∈ xs := ⟨pm.nodup_iff.mpr hg.nd, by rw [pm.length_eq]; exact hg.n8, pe.nodup_iff.mpr hg.end_, by rw [pe.length_eq]; exact hg.e18, pe.mem_iff.mpr hx, pm.mem_iff.mpr ed.l, pm.mem_iff.mpr ed.r⟩
    rcases h4 with rfl | rfl
    all_goals
      conv => whnf
      refine free_go (m5) ?_
      conv => whnf
      refine ⟨xs, f, ys, bv, b, x, cd, bd, rfl, ?_⟩
      have lp : (path f b x).length ≤ 1000 := by
        have := hb.few x hx
        simp only [path, List.length_cons, List.length_append, List.length_nil]; omega
      clear cd bd
      generalize path f b x = p1 at px ox lp ⊢
      conv => whnf
      refine free_go (m6) ?_
      conv => whnf
      refine ⟨rfl, ?_⟩
      conv => whnf
      rw [show cutP (p1.map pT) (some 1) none = (p1.drop 1).map pT from cut_drop' pT p1 1]
      refine ⟨rfl, ?_⟩
      conv => whnf
      rw [show coupled (p1.map pT) ((p1.drop 1).map pT) = (segs p1).map fun q => .tup [pT q.1, pT q.2] from coupled_segs p1]
      try simp only [wipeE, backE, stayV, startE, List.set_cons_zero, List.set_cons_succ, List.getElem?_cons_zero, List.getElem?_cons_succ, putB, putC, Sl.put, List.cons_append, List.nil_append, List.length_cons, List.length_nil, Nat.reduceAdd, Nat.reduceSub, List.replicate_succ, List.replicate_zero]
      refine runF_rec (fun q : Pt × Pt => .tup [pT q.1, pT q.2]) (fun todo e => ∃ (s4 s6 s7 s8 : Sl), (∀ q ∈ todo, q ∈ segs p1) ∧ e = [.val (pG C ns dn), .val (.dic (ptsD xs f)), .val (.dic (linD ys bv)), .no, s4, .val (pE x), s6, s7, s8] ∧ (s4 = .own (.lst (A.map pT)) ∨ s4 = .val (.lst (A.map pT))) ∧ slB s6 = true ∧ slB s7 = true ∧ slB s8 = true) _ _ ⟨_, _, _, _, fun x h => h, rfl, by first | exact .inl rfl | exact .inr rfl, rfl, m7, m8⟩ ?_ ?_
      · rintro q todo2 _ R2 ⟨s4, s6, s7, s8, hm2, rfl, h4, m6, m7, m8⟩ hR2
        have hq := hm2 q List.mem_cons_self
        obtain ⟨w1, w2⟩ := segs_mem hq
        have n1 := nA _ (px _ w1)
        have n2 := nA _ (px _ w2)
        have lb : (boxed q.1 q.2 A).length ≤ 1000 := Nat.le_trans (List.length_filter_le _ _) (by omega)
        have nb : ∀ p ∈ boxed q.1 q.2 A, nearB p = true := fun p hp => nA p (List.mem_filter.mp hp).1
        have ob : ∀ p ∈ boxed q.1 q.2 A, offs q.1 q.2 p ≠ 0 := fun p hp => ox q hq p (List.mem_filter.mp hp).1 (List.mem_filter.mp hp).2
        have go2 : ∀ s4 s6 s7 s8 : Sl, (s4 = .own (.lst (A.map pT)) ∨ s4 = .val (.lst (A.map pT))) → slB s6 = true → slB s7 = true → slB s8 = true → R2 [.val (pG C ns dn), .val (.dic (ptsD xs f)), .val (.dic (linD ys bv)), .no, s4, .val (pE x), s6, s7, s8] := fun s4 s6 s7 s8 a b c d => hR2 _ ⟨s4, s6, s7, s8, fun x hx => hm2 x (List.mem_cons_of_mem _ hx), rfl, a, b, c, d⟩
        clear hR2
        have shpB : Shp (.lst ((boxed q.1 q.2 A).map fun p => .int (offs q.1 q.2 p))) := by
          have := shp_ints ((boxed q.1 q.2 A).map fun p => offs q.1 q.2 p)
          rw [List.map_map] at this; exact this
        have hB : hasP ((boxed q.1 q.2 A).map fun p => .int (offs q.1 q.2 p)) (.int 0) = false := by
          have := encI.has ((boxed q.1 q.2 A).map fun p => offs q.1 q.2 p) 0
          rw [List.map_map] at this
          refine Eq.trans this (decide_eq_false fun z => ?_)
          obtain ⟨p, hp, e⟩ := List.mem_map.mp z
          exact ob p hp e
        rcases h4 with rfl | rfl
        · conv => whnf
          refine free_go (m7) ?_
          conv => whnf
          refine free_go (m8) ?_
          conv => whnf
          refine ⟨rfl, ?_⟩
          conv => whnf
          refine ⟨q.1, q.2, A, by omega, rfl, ?_⟩
          generalize boxed q.1 q.2 A = B at lb nb ob shpB hB ⊢
          conv => whnf
          refine ⟨rfl, ?_⟩
          conv => whnf
          refine ⟨q.1, q.2, B, lb, ⟨n1, n2, nb⟩, rfl, ?_⟩
          conv => whnf
          refine ⟨⟨encI.shp rfl, shpB⟩, ?_⟩
          rw [hB]
          exact go2 _ _ _ _ (.inr rfl) m6 rfl rfl
        · conv => whnf
          refine free_go (m7) ?_
          conv => whnf
          refine free_go (m8) ?_
          conv => whnf
          refine ⟨q.1, q.2, A, by omega, rfl, ?_⟩
          generalize boxed q.1 q.2 A = B at lb nb ob shpB hB ⊢
          conv => whnf
          refine ⟨rfl, ?_⟩
          conv => whnf
          refine ⟨q.1, q.2, B, lb, ⟨n1, n2, nb⟩, rfl, ?_⟩
          conv => whnf
          refine ⟨⟨encI.shp rfl, shpB⟩, ?_⟩
          rw [hB]
          exact go2 _ _ _ _ (.inr rfl) m6 rfl rfl
      · rintro _ ⟨s4, s6, s7, s8, _, rfl, h4, m6, m7, m8⟩
        conv => whnf
        exact go _ _ _ _ _ h4 rfl m6 m7 m8
  · rintro _ ⟨s4, s5, s6, s7, s8, hm, rfl, h4, m5, m6, m7, m8⟩
    rcases h4 with rfl | rfl <;> exact h
theorem hq_Drawing (C Cd : Addr) : ∀ ss Q, g_Drawing C Cd ss Q → q_Drawing C Cd (bodyEnds 4 Q) (startE 6 ss) := by
  rintro _ Q ⟨ns, es, xs, f, ys, bv, b, hg, pm, pe, near, hb, gp, rfl, h⟩
  conv => whnf
  refine ⟨ns, es, xs, f, hg, pm, near, rfl, ?_⟩
  conv => whnf
  refine ⟨ns, es, ys, bv, b, hg, pe, hb, rfl, ?_⟩
  conv => whnf
  refine ⟨ns, es, xs, f, ys, bv, b, hg, pm, pe, near, hb, gp, rfl, ?_⟩
  conv => whnf
  refine ⟨⟨rfl, by decide⟩, ?_⟩
  conv => whnf
  refine ⟨rfl, ?_⟩
  conv => whnf
  refine ⟨rfl, ?_⟩
  try simp only [wipeE, backE, stayV, startE, List.set_cons_zero, List.set_cons_succ, List.getElem?_cons_zero, List.getElem?_cons_succ, putB, putC, Sl.put, List.cons_append, List.nil_append, List.length_cons, List.length_nil, Nat.reduceAdd, Nat.reduceSub, List.replicate_succ, List.replicate_zero]
  refine runD_new encS PV.str _root_.id (fun x => pT (f x)) (fun a => ⟨rfl, rfl⟩) ns [] (Nat.le_trans (by rw [List.length_nil, Nat.zero_add]; exact hg.n8) (by decide : 8 ≤ SZ)) (by rw [List.map_id]; exact hg.nd) (fun _ _ p h => nomatch h) (fun x hx R R0 hR => ?_) ?_
  · conv => whnf
    refine ⟨⟨rfl, pts_fam xs f _⟩, ?_⟩
    rw [pts_get (pm.mem_iff.mpr hx)]
    exact hR
  conv => whnf
  refine ⟨⟨rfl, by decide⟩, ?_⟩
  conv => whnf
  refine ⟨rfl, ?_⟩
  conv => whnf
  refine ⟨rfl, ?_⟩
  try simp only [wipeE, backE, stayV, startE, List.set_cons_zero, List.set_cons_succ, List.getElem?_cons_zero, List.getElem?_cons_succ, putB, putC, Sl.put, List.cons_append, List.nil_append, List.length_cons, List.length_nil, Nat.reduceAdd, Nat.reduceSub, List.replicate_succ, List.replicate_zero]
  refine runD_new encE pE _root_.id (fun e => .tup ((b e).map pT)) (fun a => ⟨lin_key a, rfl⟩) es [] (Nat.le_trans (by rw [List.length_nil, Nat.zero_add]; exact hg.e18) (by decide : 18 ≤ SZ)) (by rw [List.map_id]; exact hg.end_) (fun _ _ p h => nomatch h) (fun x hx R R0 hR => ?_) ?_
  · have row := hb.row x hx
    have few := hb.few x hx
    have fit : (b x).length ≤ SZ := Nat.le_trans few (by decide)
    conv => whnf
    refine ⟨⟨lin_key x, lin_fam ys bv x⟩, ?_⟩
    rw [lin_get (pe.mem_iff.mpr hx)]
    rcases row with row | row <;> rw [row]
    all_goals
      conv => whnf
      exact hR
  conv => whnf
  refine ⟨⟨rfl, by decide⟩, ?_⟩
  exact h
end CP
namespace CP
open PySem PySem.Spec PyProof.Rows L2
def g__law_graphC (C : Addr) : PG1 := fun ss Q => ∃ (s : Src) (m : Nat), (0 < m ∧ m ≤ 8) ∧ ss = [.io (srcP s), .val (.int m)] ∧ ∀ (ns : List Str) (es : List Ed2) (s' : Src), GrIn ns es ∧ ns.length ≤ m ∧ (∀ x ∈ ns, x ∈ eight) ∧ es.length ≤ 14 → Q (.sh (.tup [.lst (ns.map .str), .lst (es.map pE)])) [.io (srcP s'), .val (.int m)]
end CP
namespace CP
open PySem PySem.Spec PyProof.Rows L2
def q__law_graphC (C : Addr) : QS := (sSeq (sSet 2 (qSl (qCall (g__law_mixed C) (lLendM 0 (lKeep (qLst (aCons (qC (.str "a")) (aCons (qC (.str "ab")) (aCons (qC (.str "b")) (aCons (qC (.str "x")) (aCons (qC (.str "zzzzzzzz")) (aCons (qC (.str "node")) (aCons (qC (.str "k")) (aCons (qC (.str "c")) aNil))))))))) lNil))) oNone (oSome (qAdd (qC (.int (1))) (qCall (g__law_next C) (lLendM 0 (lKeep (qVar 1) lNil)))))))
  (sSeq (sSet 3 (qLst aNil))
  (sSeq (sFor (iqAny (qVar 2)) (gqName 4) (sExpr (qLm 3 (aCons (qLc (iqAny (qVar 2)) (gqName 5) (qTst gLt (qVar 4) (qVar 5)) (qTup (aCons (qVar 4) (aCons (qVar 5) aNil))) [5]) aNil) gExtend)))
  (sSeq (sSet 3 (qCall (g__law_mixed C) (lLendM 0 (lKeep (qVar 3) lNil))))
  (sSeq (sSet 6 (qCall (g__law_one C) (lLendM 0 (lKeep (qLst (aCons (qCB gLenU (bCons (qVar 3) bNil)) (aCons (qAdd (qCB gLenU (bCons (qVar 2) bNil)) (qC (.int (1)))) (aCons (qMul (qC (.int (2))) (qCB gLenU (bCons (qVar 2) bNil))) (aCons (qCall (g__law_next C) (lLendM 0 (lKeep (qAdd (qCB gLenU (bCons (qVar 3) bNil)) (qC (.int (1)))) lNil))) aNil))))) lNil))))
  (sRet (qTup (aCons (qVar 2) (aCons (qSl (qVar 3) oNone (oSome (qCA gMin2 (aCons (qVar 6) (aCons (qC (.int (14))) aNil))))) aNil)))))))))
end CP
namespace CP
open PySem PySem.Spec PyProof.Rows L2
end CP
namespace CP
open PySem PySem.Spec PyProof.Rows L2
theorem hq__law_graphC (C : Addr) : ∀ ss Q, g__law_graphC C ss Q → q__law_graphC C (bodyEnds 2 Q) (startE 7 ss) := by
  rintro _ Q ⟨s, m, ⟨m0, m8⟩, rfl, h⟩
  conv => whnf
  refine ⟨by first | exact Nat.le_of_ble_eq_true rfl | trivial, ?_⟩
  conv => whnf
  refine ⟨Nat.le_of_ble_eq_true rfl, ?_⟩
  conv => whnf
  refine ⟨by first | exact Nat.le_of_ble_eq_true rfl | trivial, ?_⟩
  conv => whnf
  refine ⟨nd1 0, ?_⟩
  conv => whnf
  refine ⟨s, eight.map .str, ⟨encS.shpL (by decide +kernel), by decide⟩, rfl, fun ys s1 py => ?_⟩
  obtain ⟨zs, rfl, pz⟩ := perm_of_map py
  conv => whnf
  refine ⟨by first | exact Nat.le_of_ble_eq_true rfl | trivial, ?_⟩
  conv => whnf
  refine ⟨by first | exact Nat.le_of_ble_eq_true rfl | trivial, ?_⟩
  conv => whnf
  refine ⟨nd1 0, ?_⟩
  conv => whnf
  refine ⟨s1, m, ⟨m0, by omega⟩, rfl, fun n s2 hn => ?_⟩
  conv => whnf
  rw [show (1 : Int) + (n : Int) = ((1 + n : Nat) : Int) by omega, cut_take PV.str zs (1 + n)]
  have pl : zs.length = 8 := pz.length_eq
  have nd : (zs.take (1 + n)).Nodup := (List.take_sublist _ _).nodup (pz.nodup_iff.mpr eight_nd)
  have nm : ∀ x ∈ zs.take (1 + n), nameB x = true := fun x hx => eight_nm x (pz.mem_iff.mp (List.mem_of_mem_take hx))
  have ln : (zs.take (1 + n)).length = 1 + n := by rw [List.length_take]; omega
  have ne8 : ∀ x ∈ zs.take (1 + n), x ∈ eight := fun x hx => pz.mem_iff.mp (List.mem_of_mem_take hx)
  generalize zs.take (1 + n) = ns at nd nm ln ne8 ⊢
  have vs : VsOk ns := ⟨nd, by omega, by omega, nm⟩
  have la := allN_len ns ns
  have sq : ns.length * ns.length ≤ 8 * 8 := Nat.mul_le_mul (by omega) (by omega)
  conv => whnf
  refine ⟨Nat.le_of_ble_eq_true rfl, ?_⟩
  conv => whnf
  refine ⟨by first | exact Nat.le_of_ble_eq_true rfl | trivial, ?_⟩
  conv => whnf
  try simp only [wipeE, backE, stayV, startE, List.set_cons_zero, List.set_cons_succ, List.getElem?_cons_zero, List.getElem?_cons_succ, putB, putC, Sl.put, List.cons_append, List.nil_append, List.length_cons, List.length_nil, Nat.reduceAdd, Nat.reduceSub, List.replicate_succ, List.replicate_zero]
  refine runF_rec PV.str (fun todo e => ∃ done s4, done ++ todo = ns ∧ e = [.io (srcP s2), .val (.int m), .val (.lst (ns.map .str)), .own (.lst ((allN ns done).map pE)), s4, .no, .no] ∧ slB s4 = true) _ _ ⟨[], .no, rfl, rfl, rfl⟩ ?_ ?_
  · rintro x xs _ R ⟨done, s4, hd, rfl, n4⟩ hR
    have xm : x ∈ ns := by rw [← hd]; simp
    have l1 := allN_len ns done
    have ld : done.length ≤ 8 := by have := congrArg List.length hd; rw [List.length_append] at this; omega
    have l2 : done.length * ns.length ≤ 8 * 8 := Nat.mul_le_mul ld (by omega)
    conv => whnf
    refine free_go (n4) ?_
    conv => whnf
    refine ⟨by first | exact Nat.le_of_ble_eq_true rfl | trivial, ?_⟩
    conv => whnf
    refine ⟨rfl, ?_⟩
    try simp only [wipeE, backE, stayV, startE, List.set_cons_zero, List.set_cons_succ, List.getElem?_cons_zero, List.getElem?_cons_succ, putB, putC, Sl.put, List.cons_append, List.nil_append, List.length_cons, List.length_nil, Nat.reduceAdd, Nat.reduceSub, List.replicate_succ, List.replicate_zero]
    refine runC_sel PV.str (strLt x) (fun y => pE (x, y)) ns (fun y hy R1 R0 h1 h0 => ?_) ?_
    · conv => whnf
      refine ⟨⟨rfl, rfl, encS.alike _ _, encS.nn _, Nat.le_trans (encS.depth x) (by decide)⟩, ?_⟩
      rw [show dLt (PV.toD (.str x)) (PV.toD (.str y)) = strLt x y from encS.dlt x y]
      cases c : strLt x y with
      | true =>
        conv => whnf
        refine ⟨Nat.le_of_ble_eq_true rfl, ?_⟩
        conv => whnf
        exact h1 c
      | false => exact h0 c
    · have l3 := List.length_filter_le (strLt x) ns
      conv => whnf
      refine ⟨by first | exact Nat.le_of_ble_eq_true rfl | trivial, ?_⟩
      conv => whnf
      refine ⟨by rw [List.length_map, List.length_map]; unfold SZ; omega, ?_⟩
      refine hR _ ⟨done ++ [x], .val (.str x), by simpa using hd, ?_, rfl⟩
      have e : allN ns (done ++ [x]) = allN ns done ++ (ns.filter (strLt x)).map fun b => (x, b) := by unfold allN; rw [List.flatMap_append]; simp
      rw [e, List.map_append, List.map_map]
      rfl
  · rintro _ ⟨done, s4, hd, rfl, n4⟩
    have hd : done = ns := by simpa using hd
    subst hd
    have ae := allN_nd nd nd
    have eo : encE.oks (allN done done) = true := List.all_eq_true.mpr fun e he => by
      obtain ⟨h1, h2, _⟩ := allN_mem.mp he
      exact Bool.and_eq_true_iff.mpr ⟨vs.ok h1, vs.ok h2⟩
    conv => whnf
    refine ⟨by first | exact Nat.le_of_ble_eq_true rfl | trivial, ?_⟩
    conv => whnf
    refine ⟨by first | exact Nat.le_of_ble_eq_true rfl | trivial, ?_⟩
    conv => whnf
    refine ⟨nd1 0, ?_⟩
    conv => whnf
    refine ⟨s2, (allN done done).map pE, ⟨shpLs eo, by rw [List.length_map]; omega⟩, rfl, fun ys s3 py => ?_⟩
    obtain ⟨es, rfl, pe⟩ := perm_of_map py
    have le : es.length ≤ 64 := by rw [pe.length_eq]; omega
    conv => whnf
    try simp only [wipeE, backE, stayV, startE, List.set_cons_zero, List.set_cons_succ, List.getElem?_cons_zero, List.getElem?_cons_succ, putB, putC, Sl.put, List.cons_append, List.nil_append, List.length_cons, List.length_nil, Nat.reduceAdd, Nat.reduceSub, List.replicate_succ, List.replicate_zero]
    refine ⟨by first | exact Nat.le_of_ble_eq_true rfl | trivial, ?_⟩
    conv => whnf
    refine ⟨.inl ⟨by decide, by decide⟩, ?_⟩
    conv => whnf
    refine ⟨by first | exact Nat.le_of_ble_eq_true rfl | trivial, ?_⟩
    conv => whnf
    refine ⟨nd1 0, ?_⟩
    conv => whnf
    refine ⟨s3, es.length + 1, ⟨by omega, by omega⟩, by rw [List.length_map]; rfl, fun k s4 hk => ?_⟩
    conv => whnf
    refine ⟨Nat.le_of_ble_eq_true rfl, ?_⟩
    conv => whnf
    refine ⟨by first | exact Nat.le_of_ble_eq_true rfl | trivial, ?_⟩
    conv => whnf
    refine ⟨nd1 0, ?_⟩
    conv => whnf
    refine ⟨s4, _, ⟨by simp, (by show (4 : Nat) < 100000; decide)⟩, rfl, fun x s5 hx => ?_⟩
    have ⟨L, hL⟩ : ∃ L : Nat, x = .int (L : Int) := by
      simp only [List.mem_cons, List.not_mem_nil, or_false] at hx
      rcases hx with rfl | rfl | rfl | rfl
      · exact ⟨(es.map pE).length, rfl⟩
      · exact ⟨(done.map PV.str).length + 1, rfl⟩
      · exact ⟨2 * (done.map PV.str).length, rfl⟩
      · exact ⟨k, rfl⟩
    subst hL
    have mn : (if (14 : Int) < (L : Int) then (14 : Int) else (L : Int)) = ((if 14 < L then 14 else L : Nat) : Int) := by split <;> split <;> omega
    have mb : (if 14 < L then 14 else L : Nat) ≤ 14 := by split <;> omega
    conv => whnf
    rw [mn, cut_take pE es]
    generalize (if 14 < L then 14 else L : Nat) = j at mb
    refine ⟨rfl, ?_⟩
    conv => whnf
    refine ⟨Nat.le_of_ble_eq_true rfl, ?_⟩
    conv => whnf
    refine h done (es.take j) s5 ⟨⟨vs, (List.take_sublist _ _).nodup (pe.nodup_iff.mpr ae), by rw [List.length_take]; omega, fun e he => ?_⟩, by omega, ne8, by rw [List.length_take]; omega⟩
    have he := allN_mem.mp (pe.mem_iff.mp (List.mem_of_mem_take he))
    exact ⟨he.1, he.2.1, he.2.2⟩
end CP
namespace CP
open PySem PySem.Spec PyProof.Rows L2
def Sb (k : Nat) (s : Src) : Prop := (0 ≤ s.2.1 ∧ s.2.1 < 2147483647) ∧ 0 ≤ s.2.2 ∧ s.2.2 ≤ (k : Int)
theorem Sb.mono {k j : Nat} {s : Src} (h : Sb k s) (l : k ≤ j) : Sb j s := ⟨h.1, h.2.1, Int.le_trans h.2.2 (Int.ofNat_le.mpr l)⟩
end CP
namespace CP
open PySem PySem.Spec PyProof.Rows L2
end CP
namespace CP
open PySem PySem.Spec PyProof.Rows L2
end CP
namespace CP
open PySem PySem.Spec PyProof.Rows L2
end CP
namespace CP
open PySem PySem.Spec PyProof.Rows L2
section
variable {α : Type} [DecidableEq α] (A : Enc α)
theorem pm_fd (v : α → PV) : ∀ (xs acc : List α), (acc ++ xs).Nodup → (xs.map fun x => (A.f x, v x)).foldl (fun acc kv => pput acc kv.1 kv.2) (acc.map fun x => (A.f x, v x)) = (acc ++ xs).map fun x => (A.f x, v x)
  | [], acc, _ => by rw [List.append_nil]; rfl
  | x :: xs, acc, nd => by
    show (xs.map fun x => (A.f x, v x)).foldl (fun acc kv => pput acc kv.1 kv.2) (pput (acc.map fun x => (A.f x, v x)) (A.f x) (v x)) = _
    have no : x ∉ acc := fun z => (List.nodup_append.mp nd).2.2 x z x List.mem_cons_self rfl
    have : pget (acc.map fun x => (A.f x, v x)) (A.f x) = none := pget_none fun p hp e => by
      obtain ⟨y, hy, rfl⟩ := List.mem_map.mp hp
      exact no ((nk_eq A).mp e ▸ hy)
    rw [pput_new this]
    have e : (acc.map fun x => (A.f x, v x)) ++ [(A.f x, v x)] = (acc ++ [x]).map fun x => (A.f x, v x) := by rw [List.map_append]; rfl
    rw [e, pm_fd v xs (acc ++ [x]) (by rwa [List.append_assoc]), List.append_assoc]; rfl
theorem pm_nd (v : α → PV) {xs : List α} (nd : xs.Nodup) : pmerge (xs.map fun x => (A.f x, v x)) = xs.map fun x => (A.f x, v x) := pm_fd A v xs [] nd
end
end CP
namespace CP
open PySem PySem.Spec PyProof.Rows L2
end CP
namespace CP
open PySem PySem.Spec PyProof.Rows L2
end CP
namespace CP
open PySem PySem.Spec PyProof.Rows L2
end CP
namespace CP
open PySem PySem.Spec PyProof.Rows L2
theorem mul_neg {m n : Int} : m * n < 0 ↔ (m < 0 ∧ 0 < n) ∨ (0 < m ∧ n < 0) := by
  constructor
  · intro h
    rcases Int.lt_trichotomy m 0 with a | a | a
    · rcases Int.lt_trichotomy n 0 with b | b | b
      · have := Int.mul_pos_of_neg_of_neg a b; omega
      · subst b; simp at h
      · exact .inl ⟨a, b⟩
    · subst a; simp at h
    · rcases Int.lt_trichotomy n 0 with b | b | b
      · exact .inr ⟨a, b⟩
      · subst b; simp at h
      · have := Int.mul_pos a b; omega
  · rintro (⟨a, b⟩ | ⟨a, b⟩)
    · exact Int.mul_neg_of_neg_of_pos a b
    · exact Int.mul_neg_of_pos_of_neg a b
theorem pos_mul_neg {k x : Int} (h : 0 < k) : k * x < 0 ↔ x < 0 := by
  rw [mul_neg]; omega
def onC (a b x : Int) : Pt := (a * x, b * (x * x))
theorem offs_onC (a b s t u : Int) : offs (onC a b s) (onC a b t) (onC a b u) = a * b * ((t - s) * ((u - s) * (u - t))) := by
  unfold offs onC
  dsimp only
  grind
def Crv (os : List Str) (X : Str → Int) : Prop := ∀ v ∈ os, ∀ w ∈ os, plc os v < plc os w → X v < X w
theorem Crv.inj {os : List Str} {X : Str → Int} (h : Crv os X) {v w : Str} (hv : v ∈ os) (hw : w ∈ os) (n : v ≠ w) : X v ≠ X w := by
  have := plc_ne hv n
  rcases Nat.lt_trichotomy (plc os v) (plc os w) with a | a | a
  · have := h v hv w hw a; omega
  · exact absurd a this
  · have := h w hw v hv a; omega
def noB : Ed2 → List Pt := fun _ => []
theorem segs_noB (f : Str → Pt) (e : Ed2) : segs (path f noB e) = [(f e.1, f e.2)] := rfl
theorem places_noB (ns : List Str) (es : List Ed2) (f : Str → Pt) : places ns es f noB = ns.map f := by
  unfold places
  rw [show es.flatMap noB = [] from List.flatMap_eq_nil_iff.mpr fun _ _ => rfl, List.append_nil]
section
variable {ns os : List Str} {es : List Ed2} {X : Str → Int} {a b : Int}
theorem crv_inj (h : Crv os X) (ha : a = 1 ∨ a = -1) {v w : Str} (hv : v ∈ os) (hw : w ∈ os) (n : v ≠ w) : onC a b (X v) ≠ onC a b (X w) := fun z => by
  have := congrArg Prod.fst z
  have := h.inj hv hw n
  unfold onC at *
  rcases ha with rfl | rfl <;> simp at * <;> omega
theorem crv_gen (hg : GrOk ns es) (pm : os.Perm ns) (h : Crv os X) (ha : a = 1 ∨ a = -1) (hb : b = 1 ∨ b = -1) : GenPos ns es (fun v => onC a b (X v)) noB := by
  refine ⟨?_, ?_, fun e he s hs p hp hx => ?_⟩
  · rw [places_noB]
    exact nodup_map_on (fun v hv w hw e => Classical.byContradiction fun z => crv_inj h ha (pm.mem_iff.mpr hv) (pm.mem_iff.mpr hw) z e) hg.nd
  · rw [places_noB, List.length_map]; have := hg.n8; omega
  · rw [segs_noB, List.mem_singleton] at hs
    subst hs
    rw [places_noB] at hp
    obtain ⟨w, hw, rfl⟩ := List.mem_map.mp hp
    have ed := hg.ed e he
    have m1 := pm.mem_iff.mpr ed.l
    have m2 := pm.mem_iff.mpr ed.r
    have mw := pm.mem_iff.mpr hw
    unfold boxB at hx
    simp only [Bool.and_eq_true, decide_eq_true_eq] at hx
    have n1 : w ≠ e.1 := fun z => hx.2.1 (by rw [z])
    have n2 : w ≠ e.2 := fun z => hx.2.2 (by rw [z])
    have n3 : e.1 ≠ e.2 := fun z => by
      have := ed.lt
      rw [z] at this
      have q := encS.irr e.2
      rw [show encS.lt e.2 e.2 = strLt e.2 e.2 from rfl, this] at q; cases q
    show offs (onC a b (X e.1)) (onC a b (X e.2)) (onC a b (X w)) ≠ 0
    rw [offs_onC]
    have i1 := h.inj mw m1 n1
    have i2 := h.inj mw m2 n2
    have i3 := h.inj m1 m2 n3
    refine Int.mul_ne_zero (Int.mul_ne_zero (by omega) (by omega)) (Int.mul_ne_zero (by omega) (Int.mul_ne_zero (by omega) (by omega)))
theorem crv_near (h : ∀ v ∈ os, (X v).natAbs ≤ 100000000000) (ha : a = 1 ∨ a = -1) (hb : b = 1 ∨ b = -1) {v : Str} (hv : v ∈ os) : nearB (onC a b (X v)) = true := by
  have := h v hv
  generalize X v = x at this
  have q : (x * x).natAbs ≤ 100000000000 * 100000000000 := by rw [Int.natAbs_mul]; exact Nat.mul_le_mul this this
  unfold nearB nearI onC
  simp only [Bool.and_eq_true, decide_eq_true_eq]
  rcases ha with rfl | rfl <;> rcases hb with rfl | rfl <;> omega
end
end CP
namespace CP
open PySem PySem.Spec PyProof.Rows L2
end CP
namespace CP
open PySem PySem.Spec PyProof.Rows L2
end CP
namespace CP
open PySem PySem.Spec PyProof.Rows L2
end CP
namespace CP
open PySem PySem.Spec PyProof.Rows L2
end CP
namespace CP
open PySem PySem.Spec PyProof.Rows L2
end CP
namespace CP
open PySem PySem.Spec PyProof.Rows L2
theorem places_perm {ns : List Str} {es es' : List Ed2} {f : Str → Pt} {b : Ed2 → List Pt} (p : es.Perm es') : (places ns es f b).Perm (places ns es' f b) := List.Perm.append_left _ (p.flatMap_right b)
theorem GenPos.perm {ns : List Str} {es es' : List Ed2} {f : Str → Pt} {b : Ed2 → List Pt} (h : GenPos ns es f b) (p : es.Perm es') : GenPos ns es' f b :=
  ⟨(places_perm p).nodup_iff.mp h.nd, by rw [← (places_perm p).length_eq]; exact h.few, fun e he s hs q hq => h.off e (p.mem_iff.mpr he) s hs q ((places_perm p).mem_iff.mpr hq)⟩
theorem zip_plc {α : Type} {ns : List Str} (nd : ns.Nodup) (g : Str → Nat → α) : ns.zipIdx.map (fun x => g x.1 x.2) = ns.map fun v => g v (plc ns v) := by
  refine List.ext_getElem (by simp) fun i h1 h2 => ?_
  rw [List.length_map] at h2
  rw [List.getElem_map, List.getElem_map, List.getElem_zipIdx]
  have : plc ns ns[i] = i := nd.idxOf_getElem i h2
  rw [this, Nat.zero_add]
end CP
namespace CP
open PySem PySem.Spec PyProof.Rows L2
structure Aff where
  a : Int
  b : Int
  c : Int
  d : Int
  e : Int
  f : Int
def Aff.det (A : Aff) : Int := A.a * A.d - A.b * A.c
def Aff.ap (A : Aff) (p : Pt) : Pt := (A.a * p.1 + A.b * p.2 + A.e, A.c * p.1 + A.d * p.2 + A.f)
def Btw (s t p : Pt) : Prop := ∃ m n : Nat, m + n ≠ 0 ∧ (n : Int) * (p.1 - s.1) = m * (t.1 - p.1) ∧ (n : Int) * (p.2 - s.2) = m * (t.2 - p.2)
theorem Btw.off {s t p : Pt} (h : Btw s t p) : offs s t p = 0 := by
  obtain ⟨m, n, h0, h1, h2⟩ := h
  have e : ((m : Int) + n) * offs s t p = 0 := by unfold offs; grind
  exact (Int.mul_eq_zero.mp e).resolve_left (by omega)
end CP
namespace CP
open PySem PySem.Spec PyProof.Rows L2
def lvl (m : Int) (p : Pt) : Int := m * p.1 + p.2
theorem offs_flip (a b p : Pt) : offs b a p = - offs a b p := by unfold offs; grind
def GoodB (m : Int) (a b p : Pt) : Prop := (lvl m a < lvl m p ∧ lvl m p < lvl m b ∨ lvl m b < lvl m p ∧ lvl m p < lvl m a) → offs a b p ≠ 0
theorem GoodB.rev {m : Int} {a b p : Pt} (h : GoodB m a b p) : GoodB m b a p := fun q => by
  have := h (by omega)
  rw [offs_flip a b p]
  omega
structure Four (m : Int) (a b c d : Pt) : Prop where
  ab : lvl m a ≠ lvl m b
  cd : lvl m c ≠ lvl m d
  ac : lvl m a ≠ lvl m c
  ad : lvl m a ≠ lvl m d
  bc : lvl m b ≠ lvl m c
  bd : lvl m b ≠ lvl m d
  gc : GoodB m a b c
  gd : GoodB m a b d
  ga : GoodB m c d a
  gb : GoodB m c d b
theorem Four.r1 {m : Int} {a b c d : Pt} (h : Four m a b c d) : Four m b a c d := ⟨h.ab.symm, h.cd, h.bc, h.bd, h.ac, h.ad, h.gc.rev, h.gd.rev, h.gb, h.ga⟩
theorem Four.r2 {m : Int} {a b c d : Pt} (h : Four m a b c d) : Four m c d a b := ⟨h.cd, h.ab, h.ac.symm, h.bc.symm, h.ad.symm, h.bd.symm, h.ga, h.gb, h.gc, h.gd⟩
end CP
namespace CP
open PySem PySem.Spec PyProof.Rows L2
theorem Btw.back {s t p : Pt} {A : Aff} (hA : A.det ≠ 0) (h : Btw (A.ap s) (A.ap t) (A.ap p)) : Btw s t p := by
  obtain ⟨m, n, h0, h1, h2⟩ := h
  refine ⟨m, n, h0, ?_, ?_⟩
  · have e : A.det * ((n : Int) * (p.1 - s.1) - m * (t.1 - p.1)) = A.d * ((n : Int) * ((A.ap p).1 - (A.ap s).1) - m * ((A.ap t).1 - (A.ap p).1)) - A.b * ((n : Int) * ((A.ap p).2 - (A.ap s).2) - m * ((A.ap t).2 - (A.ap p).2)) := by unfold Aff.ap Aff.det; dsimp only; grind
    rw [h1, h2, Int.sub_self, Int.sub_self, Int.mul_zero, Int.mul_zero, Int.sub_self] at e
    have := (Int.mul_eq_zero.mp e).resolve_left hA
    omega
  · have e : A.det * ((n : Int) * (p.2 - s.2) - m * (t.2 - p.2)) = A.a * ((n : Int) * ((A.ap p).2 - (A.ap s).2) - m * ((A.ap t).2 - (A.ap p).2)) - A.c * ((n : Int) * ((A.ap p).1 - (A.ap s).1) - m * ((A.ap t).1 - (A.ap p).1)) := by unfold Aff.ap Aff.det; dsimp only; grind
    rw [h1, h2, Int.sub_self, Int.sub_self, Int.mul_zero, Int.mul_zero, Int.sub_self] at e
    have := (Int.mul_eq_zero.mp e).resolve_left hA
    omega
def Aff.fn (A : Aff) (f : Str → Pt) : Str → Pt := fun v => A.ap (f v)
end CP
namespace CP
open PySem PySem.Spec PyProof.Rows L2
theorem mul_lt_iff {x k : Int} (h : 0 < k) : x * k < 0 ↔ x < 0 := by rw [Int.mul_comm]; exact pos_mul_neg h
theorem dlt {x k : Int} (h : 0 < k) : decide (x * k < 0) = decide (x < 0) := decide_eq_decide.mpr (mul_lt_iff h)
def Near (p : Int) : Prop := 0 < p ∧ p ≤ 1000
def Far (p : Int) : Prop := p ≤ -10000
theorem pp {x y : Int} (h1 : 0 < x) (h2 : 0 < y) : 0 < x * y := Int.mul_pos h1 h2
theorem nn {x y : Int} (h1 : x < 0) (h2 : y < 0) : 0 < x * y := Int.mul_pos_of_neg_of_neg h1 h2
end CP
namespace CP
open PySem PySem.Spec PyProof.Rows L2
def zz {α : Type} (xs : List α) : List (α × α) := xs.zip (xs.drop 1)
theorem nf {p q : Int} (hp : Near p) (hq : Far q) : p ≠ q := by unfold Near at hp; unfold Far at hq; omega
end CP
namespace CP
open PySem PySem.Spec PyProof.Rows L2
section
variable {α β : Type}
end
end CP
namespace CP
open PySem PySem.Spec PyProof.Rows L2
end CP
namespace CP
open PySem PySem.Spec PyProof.Rows L2
theorem nod_perm : ∀ {r P : List Nat}, r.Nodup → (∀ p ∈ r, p ∈ P) → P.length ≤ r.length → r.Perm P
  | [], P, _, _, l => by
    have : P = [] := List.length_eq_zero_iff.mp (by simpa using l)
    rw [this]
  | x :: r, P, nd, h, l => by
    obtain ⟨h1, h2⟩ := List.nodup_cons.mp nd
    have hx := h x List.mem_cons_self
    have le := List.length_erase_of_mem hx
    have := List.length_pos_of_mem hx
    rw [List.length_cons] at l
    have ih := nod_perm (P := P.erase x) h2 (fun p hp => (List.mem_erase_of_ne fun z : p = x => h1 (z ▸ hp)).mpr (h p (List.mem_cons_of_mem _ hp))) (by omega)
    exact (ih.cons x).trans (List.perm_cons_erase hx).symm
theorem ind_of_span {b c : List Nat} (hc : Ind c) (h : ∀ x ∈ c, Spn b x) (l : b.length ≤ c.length) : Ind b := by
  have n2 : ((List.range (2 ^ c.length)).map (comb c)).Nodup := nod_map List.nodup_range fun u hu v hv e => ind_inj hc (List.mem_range.mp hu) (List.mem_range.mp hv) e
  have pm := nod_perm n2 (P := (List.range (2 ^ b.length)).map (comb b)) (fun p hp => by
    obtain ⟨u, _, rfl⟩ := List.mem_map.mp hp
    obtain ⟨v, e⟩ := comb_of h u
    exact List.mem_map.mpr ⟨v % 2 ^ b.length, List.mem_range.mpr (Nat.mod_lt _ (Nat.two_pow_pos _)), by rw [comb_mod, e]⟩) (by
    rw [List.length_map, List.length_map, List.length_range, List.length_range]
    exact Nat.pow_le_pow_right (by decide) l)
  have n1 := pm.nodup_iff.mp n2
  intro u hu e
  have hl : ((List.range (2 ^ b.length)).map (comb b)).length = 2 ^ b.length := by rw [List.length_map, List.length_range]
  have g : ∀ v (hv : v < 2 ^ b.length), ((List.range (2 ^ b.length)).map (comb b))[v]'(by rw [hl]; exact hv) = comb b v := fun v hv => by rw [List.getElem_map, List.getElem_range]
  have p0 := Nat.two_pow_pos b.length
  have i1 := n1.idxOf_getElem u (by rw [hl]; exact hu)
  have i2 := n1.idxOf_getElem 0 (by rw [hl]; exact p0)
  rw [g u hu, e] at i1
  rw [g 0 p0, comb_zero] at i2
  exact i1.symm.trans i2
theorem ind_prefix {b : List Nat} {o : Nat} (h : Ind (b ++ [o])) : Ind b := fun u hu e => h u (Nat.lt_of_lt_of_le hu (Nat.pow_le_pow_right (by decide) (by simp))) (by rw [comb_more hu, e])
theorem evenStep_ind {fnd : List Nat} (h : Ind fnd) (row : Nat) : Ind (evenStep fnd row) := by
  have len := evenStep_len_eq fnd row
  by_cases c : ∃ x ∈ fnd, dot x row = true
  · rw [if_pos c] at len
    refine ind_prefix (o := (fnd.filter fun b => dot b row).headD 0) (ind_of_span h (fun x hx => ?_) (by rw [List.length_append]; exact Nat.le_of_eq len))
    have sub : ∀ {z}, Spn (evenStep fnd row) z → Spn (evenStep fnd row ++ [(fnd.filter fun b => dot b row).headD 0]) z := fun h => spn_sub (fun r hr => List.mem_append.mpr (.inl hr)) h
    rcases evenStep_spn (row := row) (spn_mem hx) with ⟨_, q⟩ | ⟨_, q⟩
    · exact sub q
    · have := spn_xor (sub q) (spn_mem (b := evenStep fnd row ++ [(fnd.filter fun b => dot b row).headD 0]) (List.mem_append.mpr (.inr List.mem_cons_self)))
      rwa [xor_xor] at this
  · rw [if_neg c] at len
    refine ind_of_span h (fun x hx => ?_) (by omega)
    rcases evenStep_spn (row := row) (spn_mem hx) with ⟨_, q⟩ | ⟨q, _⟩
    · exact q
    · exact absurd ⟨x, hx, q⟩ c
theorem pows_ind (size : Nat) : Ind ((List.range size).map (2 ^ ·)) := by
  have b : ∀ i, blen (2 ^ i) = i + 1 := fun i => by
    unfold blen
    rw [if_neg (by have := Nat.two_pow_pos i; omega), Nat.log2_two_pow]
  refine ind_blen (fun x hx => ?_) ?_
  · obtain ⟨i, _, rfl⟩ := List.mem_map.mp hx
    have := Nat.two_pow_pos i
    show (2 : Nat) ^ i ≠ 0
    omega
  · rw [List.map_map]
    refine nod_map List.nodup_range fun a _ d _ e => ?_
    have e : blen (2 ^ a) = blen (2 ^ d) := e
    rw [b, b] at e
    omega
theorem evens_ind (rows : List Nat) (size : Nat) : Ind (evens rows size) := by
  have go : ∀ (rows fnd : List Nat), Ind fnd → Ind (rows.foldl evenStep fnd) := by
    intro rows
    induction rows with
    | nil => intro fnd h; exact h
    | cons r rows ih => intro fnd h; exact ih _ (evenStep_ind h r)
  exact go rows _ (pows_ind size)
theorem ev_xor {rows : List Nat} {size a b : Nat} (ha : Ev rows size a) (hb : Ev rows size b) : Ev rows size (a ^^^ b) := ⟨fun r hr => by rw [dot_xor, ha.1 r hr, hb.1 r hr]; rfl, Nat.xor_lt_two_pow ha.2 hb.2⟩
theorem ev_zero (rows : List Nat) (size : Nat) : Ev rows size 0 := ⟨fun r _ => dot_zero r, Nat.two_pow_pos _⟩
theorem evens_ev {rows : List Nat} {size n : Nat} (h : Spn (evens rows size) n) : Ev rows size n := spn_ind (p := Ev rows size) (ev_zero rows size) (fun _ _ => ev_xor) (fun r hr => evens_even hr) h
theorem null_le {rows rows' : List Nat} {size size' : Nat} {f : Nat → Nat} (f0 : f 0 = 0) (fx : ∀ a b, f (a ^^^ b) = f a ^^^ f b) (pres : ∀ w, Ev rows size w → Ev rows' size' (f w)) (inj : ∀ w, Ev rows size w → f w = 0 → w = 0) : (evens rows size).length ≤ (evens rows' size').length :=
  dim_map (evens_ind rows size) f0 fx (fun n hn => inj n (evens_ev hn)) fun x hx => evens_all_spn (pres x (evens_even hx))
section
variable {α : Type} [DecidableEq α]
def bf (P : List α) (n : Nat) (a : α) : Bool := n.testBit (P.idxOf a)
theorem nmf_bf {P : List α} (nd : P.Nodup) {n : Nat} (h : n < 2 ^ P.length) : nmf (bf P n) P = n := by
  refine Nat.eq_of_testBit_eq fun i => ?_
  rw [nmf_bit]
  by_cases c : i < P.length
  · rw [List.getElem?_eq_getElem c]
    show n.testBit (P.idxOf P[i]) = _
    rw [nd.idxOf_getElem i c]
  · rw [List.getElem?_eq_none (by omega), Nat.testBit_lt_two_pow (Nat.lt_of_lt_of_le h (Nat.pow_le_pow_right (by decide) (by omega)))]; rfl
theorem par_xorL {β : Type} (f : β → Bool) : ∀ P : List β, par (nmf f P) = xorL f P
  | [] => par_zero
  | p :: P => by
    rw [nmf, par_step, xorL]
    have e1 : ((if f p = true then 1 else 0) + 2 * nmf f P) / 2 = nmf f P := by split <;> omega
    have e2 : (((if f p = true then 1 else 0) + 2 * nmf f P) % 2 == 1) = f p := by cases f p <;> simp <;> omega
    rw [e1, e2, par_xorL f P]
theorem dot_nmf {β : Type} (f g : β → Bool) (P : List β) : dot (nmf f P) (nmf g P) = xorL (fun p => f p && g p) P := by
  unfold dot
  rw [nmf_and, par_xorL]
theorem xorL_in {P fl : List α} (nP : P.Nodup) (nf : fl.Nodup) (sub : ∀ p ∈ fl, p ∈ P) (f : α → Bool) : xorL (fun p => f p && decide (p ∈ fl)) P = xorL f fl := by
  have : (P.filter fun p => decide (p ∈ fl)).Perm fl := (List.perm_ext_iff_of_nodup (nP.filter _) nf).mpr fun p => by
    rw [List.mem_filter, decide_eq_true_iff]
    exact ⟨fun h => h.2, fun h => ⟨sub p h, h⟩⟩
  rw [← xorL_perm this, xorL_filter]
  congr 1
  funext p
  exact Bool.and_comm ..
theorem xorL_none {β : Type} {f : β → Bool} {P : List β} (h : ∀ p ∈ P, f p = false) : xorL f P = false := by
  rw [xorL_congr h]
  induction P with
  | nil => rfl
  | cons p P ih => rw [xorL, ih fun q hq => h q (List.mem_cons_of_mem _ hq)]; rfl
end
def Wf (ns : List Str) (E : List Ed2) (f : Pr2 → Bool) : Prop := ∀ c, CaOk ns E c → xorL f (flips E c) = false
section
variable {ns : List Str} {E : List Ed2}
theorem wf_congr {f g : Pr2 → Bool} (hg : GrOk ns E) (h : ∀ p ∈ prs E, f p = g p) (hf : Wf ns E f) : Wf ns E g := fun c hc => by
  rw [← hf c hc]
  exact xorL_congr fun p hp => (h p ((flips_ok hg hc).sub p hp)).symm
theorem ev_wf (hg : GrOk ns E) (f : Pr2 → Bool) : Ev (rowsOf ns E) (prs E).length (nmf f (prs E)) ↔ Wf ns E f := by
  have key : ∀ c, CaOk ns E c → dot (nmf f (prs E)) (num E (flips E c)) = xorL f (flips E c) := fun c hc => by
    have fo := flips_ok hg hc
    unfold num
    rw [dot_nmf]
    exact (xorL_congr fun p _ => congrArg (f p && ·) (decide_eq_decide.mpr Iff.rfl)).trans (xorL_in (prs_nd hg.asc) fo.nd fo.sub f)
  constructor
  · intro h c hc
    rw [← key c hc]
    exact h.1 _ (List.mem_map.mpr ⟨c, everyC_ok.mpr hc, rfl⟩)
  · intro h
    refine ⟨fun r hr => ?_, nmf_lt _ _⟩
    obtain ⟨c, hc, rfl⟩ := List.mem_map.mp hr
    have hc := everyC_ok.mp hc
    show dot _ (num E (flips E c)) = false
    rw [key c hc]; exact h c hc
theorem wit_wf (hg : GrOk ns E) {w : List Pr2} (hw : RecOk E w) : isWit ns E w = true ↔ Wf ns E fun p => decide (p ∈ w) := by
  rw [isWit_iff hg hw]
  refine Iff.trans ?_ (ev_wf hg _)
  constructor
  · intro h
    refine ⟨fun r hr => ?_, nmf_lt _ _⟩
    obtain ⟨c, hc, rfl⟩ := List.mem_map.mp hr
    exact h c hc
  · intro h c hc
    exact h.1 _ (List.mem_map.mpr ⟨c, hc, rfl⟩)
theorem made_wf (hg : GrOk ns E) (g : Pr2 → Bool) : Made ns E (nmf g (prs E)) ↔ ∀ f, Wf ns E f → xorL (fun p => f p && g p) (prs E) = false := by
  constructor
  · rintro ⟨u, hu⟩ f hf
    rw [← dot_nmf, dot_comm, hu]
    exact dot_comb (fun r hr => by rw [dot_comm]; exact ((ev_wf hg f).mpr hf).1 r hr) u
  · intro h
    refine Classical.byContradiction fun no => ?_
    have z : (red (basOf ns E) (nmf g (prs E)) 0).1 ≠ 0 := fun z => no ((red_zero (basOf_ok ns E) _ 0).mp z)
    obtain ⟨w1, w2, w3⟩ := left_wit (basOf_ok ns E) (r := 0) (fun x hx => rows_lt hx) (nmf_lt g (prs E)) z
    generalize wit (basOf ns E) (low (red (basOf ns E) (nmf g (prs E)) 0).1) = w at w1 w2 w3
    have e := nmf_bf (prs_nd hg.asc) w3
    have hf : Wf ns E (bf (prs E) w) := (ev_wf hg _).mp (by rw [e]; exact ⟨fun r hr => by rw [dot_comm]; exact w1 r hr, w3⟩)
    have := h _ hf
    rw [← dot_nmf, e, dot_comm, w2] at this
    cases this
def nul (ns : List Str) (E : List Ed2) : Nat := (evens (rowsOf ns E) (prs E).length).length
theorem nul_le {ns' : List Str} {E' : List Ed2} (hg : GrOk ns E) (hg' : GrOk ns' E') (F : (Pr2 → Bool) → Pr2 → Bool) (add : ∀ f g p, F (fun q => f q ^^ g q) p = (F f p ^^ F g p))
    (pres : ∀ f, Wf ns E f → Wf ns' E' (F f)) (inj : ∀ f, Wf ns E f → (∀ p ∈ prs E', F f p = false) → ∀ p ∈ prs E, f p = false) : nul ns E ≤ nul ns' E' := by
  have zero : ∀ p, F (fun _ => false) p = false := fun p => by
    have := add (fun _ => false) (fun _ => false) p
    simp only [Bool.xor_self] at this
    exact this
  refine null_le (f := fun n => nmf (F (bf (prs E) n)) (prs E')) ?_ (fun a b => ?_) (fun w hw => ?_) fun w hw e => ?_
  · refine nmf_none fun p _ => ?_
    have : bf (prs E) 0 = fun _ => false := by funext q; unfold bf; exact Nat.zero_testBit _
    rw [this]; exact zero p
  · rw [nmf_xor]
    refine nmf_ext fun p _ => ?_
    have : bf (prs E) (a ^^^ b) = fun q => bf (prs E) a q ^^ bf (prs E) b q := by funext q; unfold bf; exact Nat.testBit_xor ..
    rw [this]; exact add _ _ p
  · have e := nmf_bf (prs_nd hg.asc) hw.2
    exact (ev_wf hg' _).mpr (pres _ ((ev_wf hg _).mp (by rw [e]; exact hw)))
  · have e2 := nmf_bf (prs_nd hg.asc) hw.2
    have z : nmf (F (bf (prs E) w)) (prs E') = nmf (fun _ => false) (prs E') := by rw [nmf_none fun _ _ => rfl]; exact e
    have := inj _ ((ev_wf hg _).mp (by rw [e2]; exact hw)) (nmf_inj z)
    rw [← e2]
    exact nmf_none this
end
structure WSame (ns : List Str) (E : List Ed2) (ns' : List Str) (E' : List Ed2) : Prop where
  g : GrOk ns E
  g' : GrOk ns' E'
  sub : ∀ p ∈ prs E, p ∈ prs E'
  down : ∀ f, Wf ns' E' f → Wf ns E f ∧ ∀ p ∈ prs E', p ∉ prs E → f p = false
  up : ∀ f, Wf ns E f → (∀ p ∈ prs E', p ∉ prs E → f p = false) → Wf ns' E' f
section
variable {ns ns' : List Str} {E E' : List Ed2}
theorem WSame.nul (h : WSame ns E ns' E') : CP.nul ns' E' = CP.nul ns E := by
  refine Nat.le_antisymm (nul_le h.g' h.g (fun f p => f p) (fun _ _ _ => rfl) (fun f hf => (h.down f hf).1) fun f hf z p hp => ?_) (nul_le h.g h.g' (fun f p => decide (p ∈ prs E) && f p) (fun f g p => ?_) (fun f hf => ?_) fun f hf z p hp => ?_)
  · by_cases c : p ∈ prs E
    · exact z p c
    · exact (h.down f hf).2 p hp c
  · cases decide (p ∈ prs E) <;> rfl
  · refine h.up _ (wf_congr h.g (fun p hp => ?_) hf) fun p _ c => ?_
    · rw [decide_eq_true hp]; rfl
    · rw [decide_eq_false c]; rfl
  · have := z p (h.sub p hp)
    rwa [decide_eq_true hp] at this
theorem WSame.recOk (h : WSame ns E ns' E') {w : List Pr2} (hw : RecOk E w) : RecOk E' w := ⟨hw.nd, fun p hp => h.sub p (hw.sub p hp)⟩
theorem WSame.wit (h : WSame ns E ns' E') {w : List Pr2} (hw : RecOk E w) (iw : isWit ns E w = true) : isWit ns' E' w = true :=
  (wit_wf h.g' (h.recOk hw)).mpr (h.up _ ((wit_wf h.g hw).mp iw) fun p _ c => decide_eq_false fun z => c (hw.sub p z))
theorem WSame.made (h : WSame ns E ns' E') (g g' : Pr2 → Bool) (e : ∀ p ∈ prs E, g p = g' p) : Made ns' E' (nmf g' (prs E')) ↔ Made ns E (nmf g (prs E)) := by
  rw [made_wf h.g', made_wf h.g]
  have key : ∀ f : Pr2 → Bool, (∀ p ∈ prs E', p ∉ prs E → f p = false) → xorL (fun p => f p && g' p) (prs E') = xorL (fun p => f p && g p) (prs E) := fun f z => by
    have : xorL (fun p => (f p && g' p) && decide (p ∈ prs E)) (prs E') = xorL (fun p => f p && g' p) (prs E) := (xorL_congr fun p _ => congrArg ((f p && g' p) && ·) (decide_eq_decide.mpr Iff.rfl)).trans (xorL_in (prs_nd h.g'.asc) (prs_nd h.g.asc) h.sub _)
    rw [xorL_congr (cs := prs E) (f := fun p => f p && g p) (g := fun p => f p && g' p) fun p hp => by rw [e p hp], ← this]
    refine xorL_congr fun p hp => ?_
    by_cases c : p ∈ prs E
    · rw [decide_eq_true c, Bool.and_true]
    · rw [z p hp c]; rfl
  constructor
  · intro hm f hf
    have := hm (fun p => decide (p ∈ prs E) && f p) (h.up _ (wf_congr h.g (fun p hp => by rw [decide_eq_true hp]; rfl) hf) fun p _ c => by rw [decide_eq_false c]; rfl)
    rw [key _ fun p _ c => by rw [decide_eq_false c]; rfl] at this
    rw [← this]
    exact xorL_congr fun p hp => by rw [decide_eq_true hp]; rfl
  · intro hm f hf
    rw [key f (h.down f hf).2]
    exact hm f (h.down f hf).1
end
end CP
namespace CP
open PySem PySem.Spec PyProof.Rows L2
section
variable {m : Int}
end
section
variable {ns : List Str} {es : List Ed2} {f : Str → Pt} {b : Ed2 → List Pt} {m : Int}
end
end CP
namespace CP
open PySem PySem.Spec PyProof.Rows L2
end CP
namespace CP
open PySem PySem.Spec PyProof.Rows L2
end CP
namespace CP
open PySem PySem.Spec PyProof.Rows L2
end CP
namespace CP
open PySem PySem.Spec PyProof.Rows L2
end CP
namespace CP
open PySem PySem.Spec PyProof.Rows L2
end CP
namespace CP
open PySem PySem.Spec PyProof.Rows L2
end CP
namespace CP
open PySem PySem.Spec PyProof.Rows L2
end CP
namespace CP
open PySem PySem.Spec PyProof.Rows L2
end CP
namespace CP
open PySem PySem.Spec PyProof.Rows L2
end CP
namespace CP
open PySem PySem.Spec PyProof.Rows L2
end CP
namespace CP
open PySem PySem.Spec PyProof.Rows L2
section
variable {G : Gh} {lv k : Nat} {X : Cx} {a : Expr} {es : List Expr} {qA : QAs} {pos pos' p np ep ap cpos rpos rp2 : Pos} {x n f fn : Str} {C Cd : Addr} {i : Nat} {ps : List Str} {g : PG1} {gx : PGX}
end
end CP
namespace CP
open PySem PySem.Spec PyProof.Rows L2
end CP
namespace CP
open PySem PySem.Spec PyProof.Rows L2
end CP
namespace CP
open PySem PySem.Spec PyProof.Rows L2
end CP
namespace CP
open PySem PySem.Spec PyProof.Rows L2
end CP
namespace CP
open PySem PySem.Spec PyProof.Rows L2
end CP
namespace CP
open PySem PySem.Spec PyProof.Rows L2
end CP
namespace CP
open PySem PySem.Spec PyProof.Rows L2
end CP
namespace CP
open PySem PySem.Spec PyProof.Rows L2
end CP
namespace CP
open PySem PySem.Spec PyProof.Rows L2
end CP
namespace CP
open PySem PySem.Spec PyProof.Rows L2
section
variable {X : Cx}
variable {G : Gh} {lv : Nat} {a : Expr} {es : List Expr} {qB : QBs} {pos p : Pos}
end
end CP
namespace CP
open PySem PySem.Spec PyProof.Rows L2
end CP
namespace CP
open PySem PySem.Spec PyProof.Rows L2
end CP
namespace CP
open PySem PySem.Spec PyProof.Rows L2
end CP
namespace CP
open PySem PySem.Spec PyProof.Rows L2
end CP
namespace CP
open PySem PySem.Spec PyProof.Rows L2
end CP
namespace CP
open PySem PySem.Spec PyProof.Rows L2
end CP
namespace CP
open PySem PySem.Spec PyProof.Rows L2
end CP
namespace CP
open PySem PySem.Spec PyProof.Rows L2
section
variable {P : Program} {w : World} {K : PySem.W.Frag} {mg : Str → Option Value} {base : Heap} {C : Addr} {k : Nat} {f : Addr} {fd : FuncData} {ps : List Str}
theorem step_ext {H H' : Hp} {M : Addr → Prop} (e : Ext H H') : Step H M H' M := ⟨fun b o h _ => e b o h, fun _ _ h => h, fun b h => by
  cases c : H b with
  | none => exact absurd c h
  | some o => rw [e b o c]; simp⟩
end
section
variable {G : Gh} {lv k : Nat} {X : Cx} {a b : Expr} {qa qb : QE} {pos : Pos} {C : Addr}
def DListR (D : Eqv) : Eqv := fun x y H => ∃ a b xs ys, x = .ref a ∧ y = .ref b ∧ Rd H a (.lst xs) ∧ Rd H b (.lst ys) ∧ Prs D xs ys H
theorem rd_ext {H H' : Hp} {a : Addr} {u : HO} (h : Rd H a u) (e : Ext H H') : Rd H' a u := h.elim (fun h => .inl (e _ _ h)) fun ⟨o, h⟩ => .inr ⟨o, e _ _ h⟩
theorem mon_listR {D : Eqv} (hD : Mon D) : Mon (DListR D) := fun x y H H' e d => by
  obtain ⟨a, b, xs, ys, h1, h2, h3, h4, p⟩ := d
  exact ⟨a, b, xs, ys, h1, h2, rd_ext h3 e, rd_ext h4 e, p.mon hD e⟩
theorem rcG_listR {n : Nat} {D : Eqv} (hD : Mon D) (h : EqG X n D) : RcG X (n + 1) (DListR D) := by
  intro A pins s σ H x y u v sb I rx ry d
  obtain ⟨a, b, xs, ys, rfl, rfl, ha, hb, p⟩ := d
  cases rx
  cases ry
  refine GQ.rc_listG (N := xs.length) sb.room.units0 (fun _ s' => LoopI X pins σ H s') (fun i s' q => ?_) (fun s' q => ⟨rfl, q⟩) ⟨H, I, Ext.rfl'⟩
  obtain ⟨H1, I1, e1⟩ := id q
  obtain ⟨z, its, k, r, e⟩ := (rd_ext ha e1).ok I1.hok
  obtain ⟨z2, its2, k2, r2, e2⟩ := (rd_ext hb e1).ok I1.hok
  refine ⟨its.toArray, its2.toArray, k, k2, e, e2, by rw [List.size_toArray, ← r.length], by rw [List.size_toArray, ← r2.length, ← p.1], fun h1 h2 => ?_⟩
  exact turnG hD h sb p r r2 i h1 h2 s' q
theorem eqG_listR {n : Nat} {D : Eqv} (hD : Mon D) (h : EqG X n D) : EqG X (n + 1) (DListR D) := (rcG_listR hD h).eqG fun _ _ _ d => let ⟨a, b, _, _, hx, hy, _⟩ := d; ⟨a, b, hx, hy⟩
theorem flat_str {H : Hp} (x : Str) : DFlat (.str x) (.str x) H := ⟨rfl, rfl, by first | rfl | simp [eqV]⟩
end
end CP
namespace CP
open PySem PySem.Spec PyProof.Rows L2
def D0 (P : Program) (w : World) : Eqv := fun x y H => ∃ a b u u', x = .ref a ∧ y = .ref b ∧ Rd H a u ∧ KysU P w a u [] ∧ Rd H b u' ∧ KysU P w b u' []
theorem mon_d0 {P : Program} {w : World} : Mon (D0 P w) := fun x y H H' e ⟨a, b, u, u', h1, h2, h3, h4, h5, h6⟩ => ⟨a, b, u, u', h1, h2, rd_ext h3 e, h4, rd_ext h5 e, h6⟩
section
variable {X : Cx}
theorem dict0 {h : Heap} {a : Addr} {H : Hp} {u : HO} {P : Program} {w : World} {s : Shared} (k : KysU P w a u []) (ok : ObjOk P w H s.heap a u) : (a == sysModules) = false ∧ s.heap.DictOf (mixKind P w) a [] := by
  have q : (a == sysModules) = false ∧ ∃ o es ep, s.heap.get? a = some o ∧ o.ExactDict ∧ o.data = .dict es ep ∧ Vals [] (es.toList.map (·.key)) := by
    rcases k with ⟨kvs, rfl, e⟩ | ⟨c, rfl, e⟩
    · obtain ⟨_, sy, ws, rel, o, es, ep, h1, h2, h3, _, h5, _⟩ := ok
      exact ⟨sy, o, es, ep, h1, h2, h3, e ▸ keys_rel h5 rel⟩
    · obtain ⟨⟨sy, o, es, ep, us, h1, h2, h3, h4, _, h6⟩, _⟩ := ok
      refine ⟨sy, o, es, ep, h1, h2, h3, ?_⟩
      rw [h4]
      exact e ▸ keys_relG h6
  obtain ⟨sy, o, es, ep, h1, h2, h3, rel⟩ := q
  have e0 : es = #[] := by
    obtain ⟨l⟩ := es
    cases l with
    | nil => rfl
    | cons x t => cases rel
  subst e0
  refine ⟨sy, o, _, ep, h1, h2, h3, fun e he => ?_, .nil, by simp⟩
  simp at he
theorem rcG_d0 : RcG X 0 (D0 X.prog X.w) := by
  intro A pins s σ H x y u v sb I rx ry ⟨a, b, u1, u2, e1, e2, h3, h4, h5, h6⟩
  subst e1 e2
  cases rx
  cases ry
  obtain ⟨sa, da⟩ := dict0 (h := s.heap) h4 (h3.ok I.hok)
  obtain ⟨sb', db⟩ := dict0 (h := s.heap) h6 (h5.ok I.hok)
  refine PySem.W.rcP_dicts (knd := mixKind X.prog X.w) (r := true) sa sb' da db sb.room.units0 (fun _ => .nil) _ _ ?_
  exact ⟨rfl, H, I, Ext.rfl'⟩
theorem eqG_d0 : EqG X 0 (D0 X.prog X.w) := rcG_d0.eqG fun _ _ _ ⟨a, b, _, _, hx, hy, _⟩ => ⟨a, b, hx, hy⟩
end
def oddV (p : PV) : Prop := p = .dic [] ∨ p = .tup [.dic [], .lst []]
abbrev DSml (G : En) : Eqv := fun x y H => D0 G.P G.w x y H ∨ DListR DFlat x y H
abbrev DSec (G : En) : Eqv := fun x y H => (D0 G.P G.w x y H ∨ DTup G.K (DSml G) x y H) ∨ DFlat x y H
theorem mon_sml {G : En} : Mon (DSml G) := mon_d0.or (mon_listR mon_flat)
theorem mon_sec {G : En} : Mon (DSec G) := (mon_d0.or (mon_tup mon_sml)).or mon_flat
theorem eqG_sec {X : Cx} : EqG X 3 (DSec ⟨X.prog, X.w, X.K⟩) :=
  (((eqG_d0.mono (by decide)).or (eqG_tup mon_sml (((eqG_d0.mono (by decide)).or ((eqG_listR mon_flat eqG_flat).mono (by decide))) : EqG X 2 (DSml ⟨X.prog, X.w, X.K⟩)))) : EqG X 3 _).or (eqG_flat.mono (by decide))
theorem d0_of {G : En} {H : Hp} {M : Addr → Prop} {v u : V} (h : Acc G H M v (.dic [])) (h' : Acc G H M u (.dic [])) : D0 G.P G.w v u H := by
  obtain ⟨a, rfl, d1⟩ := h.dic
  obtain ⟨b, rfl, d2⟩ := h'.dic
  have z : ∀ {d : Addr}, DView G H M d [] → ∃ u, Rd H d u ∧ KysU G.P G.w d u [] := fun {d} dv => by
    rcases dv with ⟨kvs, h1, h2, h3⟩ | ⟨c, h1, h2, h3, h4, h5⟩
    · cases kvs with
      | nil => exact ⟨_, h1, .inl ⟨[], rfl, rfl⟩⟩
      | cons x t => simp at h2
    · cases c with
      | nil => exact ⟨_, h1, .inr ⟨[], rfl, rfl⟩⟩
      | cons x t => simp at h4
  obtain ⟨u1, q1, q2⟩ := z d1
  obtain ⟨u2, q3, q4⟩ := z d2
  exact ⟨a, b, u1, u2, rfl, rfl, q1, q2, q3, q4⟩
theorem sec_of {G : En} {H : Hp} {M : Addr → Prop} {p : PV} (o : oddV p) {v u : V} (h : Rep G H M v p) (h' : Rep G H M u p) : DSec G v u H := by
  rcases o with rfl | rfl
  · exact .inl (.inl (d0_of (.inl h) (.inl h')))
  · cases h with
    | tup st rr =>
      cases h' with
      | tup st' rr' =>
        cases rr with
        | cons a t => cases t with
          | cons b t => cases t; cases rr' with
            | cons a' t' => cases t' with
              | cons b' t' =>
                cases t'
                refine .inl (.inr ⟨_, _, _, _, rfl, rfl, .inl st.rd, .inl st'.rd, Prs.cons (.inl (d0_of (.inl a) (.inl a'))) (Prs.cons (.inr ?_) Prs.nil)⟩)
                cases b with
                | lst sl r0 => cases r0; cases b' with
                  | lst sl' r0' => cases r0'; exact ⟨_, _, _, _, rfl, rfl, sl.1, sl'.1, Prs.nil⟩
theorem pair_of {G : En} {H : Hp} {M : Addr → Prop} {x : Str} {p : PV} (o : oddV p) {v u : V} (h : Acc G H M v (.tup [.str x, p])) (h' : Acc G H M u (.tup [.str x, p])) : DTup G.K (DSec G) v u H := by
  cases h.tupR with
  | tup st rr =>
    cases h'.tupR with
    | tup st' rr' =>
      cases rr with
      | cons a t => cases t with
        | cons b t => cases t; cases rr' with
          | cons a' t' => cases t' with
            | cons b' t' =>
              cases t'; cases a; cases a'
              exact ⟨_, _, _, _, rfl, rfl, .inl st.rd, .inl st'.rd, Prs.cons (.inr (flat_str _)) (Prs.cons (sec_of o b b') Prs.nil)⟩
section
variable {G : Gh} {lv : Nat} {X : Cx} {a b : Expr} {qa qb : QE} {pos : Pos}
inductive gNeB (p q : PV) (k : Bool → Prop) : Prop where
  | odd (x : PV) (s : Str) (h1 : p = .tup [.str s, x]) (h2 : q = .tup [.str s, x]) (o : oddV x) (h : k false) : gNeB p q k
  | dat (h : gNe p q k) : gNeB p q k
theorem gNeB_mono (p q : PV) (k k' : Bool → Prop) (f : ∀ b, k b → k' b) (h : gNeB p q k) : gNeB p q k' := by
  cases h with
  | odd x s h1 h2 h3 h4 => exact .odd x s h1 h2 h3 (f _ h4)
  | dat h => exact .dat (gNe_mono p q k k' f h)
theorem l_neB : Lift2 G (fun x y H Q => (rNe x y H Q ∨ rNeD G.K x y H Q) ∨ rNeG G.K (DSec G.toEn) x y H Q) (gB gNeB) := fun e M σ H v w p q Q k S a b g f => by
  cases (show gNeB p q (fun c => k (.sh (.bl c))) from g) with
  | odd x s h1 h2 o kk =>
    subst h1 h2
    refine .inr ⟨pair_of o a b, fun H' ex => f _ kk _ H' M ?_ (step_ext ex) (.bl false)⟩
    exact S.go (step_ext ex) (fun _ h => h) (fun b h => by
      cases c : H b with
      | none => exact absurd c (S.trk b h)
      | some o => rw [ex b o c]; simp) fun b h => by
      cases c : H b with
      | none => exact absurd c (S.trk b h)
      | some o => exact ex b o c
  | dat g => exact .inl (l_ne e M σ H v w p q Q k S a b g f)
theorem c_neB (g : Good G lv X) (h4 : 4 ≤ lv := by decide) (hG : G.toEn = ⟨X.prog, X.w, X.K⟩ := by rfl) : CmpQ G X .NotEq gNeB :=
  ⟨⟨_, OpR.or (op_neQ g) (show OpR X (compareOp .NotEq) (rNeG G.K (DSec G.toEn)) by rw [hG]; exact op_neTG mon_sec eqG_sec (g.room.mono h4)), l_neB⟩, gNeB_mono⟩
end
end CP
namespace CP
open PySem PySem.Spec PyProof.Rows L2
def noEd (p : PV) : PV := .tup [.str "no edge", p]
structure BadV (es : List Ed2) (p : PV) : Prop where
  ok : okJ p
  no : edB es p = false
  sh : oddV p ∨ (PV.isD p = true ∧ (PV.toD p).canLay0 = true ∧ (PV.toD p).depth ≤ 60)
def g__law_bad_edge (C : Addr) : PG1 := fun ss Q => ∃ (s : Src) (ns : List Str) (es : List Ed2), (GrIn ns es ∧ ∀ x ∈ ns, x ∈ eight) ∧ ss = [.io (srcP s), .val (.lst (ns.map .str)), .val (.lst (es.map pE))] ∧ ∀ (p : PV) (s' : Src), BadV es p → Q (.sh p) [.io (srcP s'), .val (.lst (ns.map .str)), .val (.lst (es.map pE))]
def Said (es : List Ed2) (p1 p2 r : PV) : Prop := (edB es p1 = false ∧ r = noEd p1) ∨ (edB es p1 = true ∧ edB es p2 = false ∧ r = noEd p2) ∨ (∃ e1 ∈ es, ∃ e2 ∈ es, p1 = pE e1 ∧ p2 = pE e2 ∧ r = if e1 = e2 then noEd p2 else .str "counted")
def g__law_said (C Cd : Addr) : PG1 := fun ss Q => ∃ ns es f b p1 p2, GrOk ns es ∧ NearOk ns es f b ∧ (okJ p1 ∧ okJ p2) ∧ ss = [.val (pDr C Cd ns es f b), .val p1, .val p2] ∧ ∀ r, Said es p1 p2 r → Q (.sh r) ss
def gx_crossings (C Cd CE : Addr) : PGX := fun ss K => ∃ ns es f b p1 p2 x, GrOk ns es ∧ (okJ p1 ∧ okJ p2) ∧ ((edB es p1 = false ∧ x = p1) ∨ (edB es p1 = true ∧ (edB es p2 = false ∨ p1 = p2) ∧ x = p2)) ∧ ss = [.val (pDr C Cd ns es f b), .val p1, .val p2] ∧ K ⟨CE, [("edge", x)]⟩
def qx_crossings (C Cd CE : Addr) : QS := (sSeq (sIf (qNot (qTb (qCallK (g_is_edgeU C) (aCons (qUn (gFld Cd "graph") (qVar 0)) (aCons (qVar 1) aNil))))) (sRaise CE "edge" (qVar 1)) sNil)
  (sSeq (sIf (qOr (qNot (qTb (qCallK (g_is_edgeU C) (aCons (qUn (gFld Cd "graph") (qVar 0)) (aCons (qVar 2) aNil))))) (qTst gEq (qVar 1) (qVar 2))) (sRaise CE "edge" (qVar 2)) sNil)
  (sSeq (sSet 3 (qCallK (g_path_of C) (aCons (qUn (gFld Cd "points") (qVar 0)) (aCons (qUn (gFld Cd "lines") (qVar 0)) (aCons (qVar 1) aNil)))))
  (sSeq (sSet 4 (qCallK (g_path_of C) (aCons (qUn (gFld Cd "points") (qVar 0)) (aCons (qUn (gFld Cd "lines") (qVar 0)) (aCons (qVar 2) aNil)))))
  (sRet (qCB gSum (bCons (qLc (iqZip (aCons (qVar 3) (aCons (qSl (qVar 3) (oSome (qC (.int (1)))) oNone) aNil))) (gqTup 2 (gqCons (gqName 5) (gqCons (gqName 6) gqNil))) qYes (qCallK (g_hits C) (aCons (qVar 5) (aCons (qVar 6) (aCons (qVar 4) aNil)))) [5, 6]) bNil)))))))
end CP
namespace CP
open PySem PySem.Spec PyProof.Rows L2
def q__law_bad_edge (C : Addr) : QS := (sSeq (sSet 5 (qLc (iqZip (aCons (qVar 1) (aCons (qSl (qVar 1) (oSome (qC (.int (1)))) oNone) aNil))) (gqTup 2 (gqCons (gqName 3) (gqCons (gqName 4) gqNil))) (qTst gNotIn (qTup (aCons (qVar 3) (aCons (qVar 4) aNil))) (qVar 2)) (qTup (aCons (qVar 3) (aCons (qVar 4) aNil))) [3, 4]))
  (sSeq (sSet 6 (qLst (aCons (qC .non) (aCons (qC (.int (5))) (aCons (qC (.str "ab")) (aCons (qTup aNil) (aCons (qLst aNil) (aCons (qFrz qDnil) (aCons (qTup (aCons (qC (.str "a")) (aCons (qC (.str "a")) aNil))) (aCons (qTup (aCons (qC (.str "zz")) (aCons (qC (.str "zzz")) aNil))) (aCons (qTup (aCons (qIxU (qVar 1) (qC (.int (0)))) aNil)) (aCons (qIxU (qVar 1) (qC (.int (0)))) (aCons (qTup (aCons (qFrz qDnil) (aCons (qLst aNil) aNil))) aNil)))))))))))))
  (sSeq (sExpr (qLm 6 (aCons (qLst (aCons (qIxU (qVar 1) (qC (.int (0)))) (aCons (qIxU (qVar 1) (qUn gNeg (qC (.int (1))))) aNil))) aNil) gAppend))
  (sSeq (sFor (iqAny (qSl (qVar 2) oNone (oSome (qC (.int (2)))))) (gqTup 2 (gqCons (gqName 3) (gqCons (gqName 4) gqNil))) (sSet 6 (qAdd (qVar 6) (qLst (aCons (qTup (aCons (qVar 4) (aCons (qVar 3) aNil))) (aCons (qLst (aCons (qVar 3) (aCons (qVar 4) aNil))) (aCons (qTup (aCons (qVar 3) (aCons (qVar 4) (aCons (qVar 3) aNil)))) (aCons (qTup (aCons (qVar 3) (aCons (qVar 3) aNil))) aNil))))))))
  (sRet (qCall (g__law_one C) (lLendM 0 (lKeep (qAdd (qVar 6) (qVar 5)) lNil))))))))
def q__law_said (C Cd CE : Addr) : QS := (sSeq (sTrySaid CE "edge" 3 (g_crossings C Cd) (gx_crossings C Cd CE) (aCons (qVar 0) (aCons (qVar 1) (aCons (qVar 2) aNil))))
  (sRet (qC (.str "counted"))))
def q_law_k29 (C Cd : Addr) : QS := (sSeq (sFor (iqAny (qAdd (qLst (aCons (qCallK (g__law_cell_at C) (aCons (qVar 0) (aCons (qC (.int (0))) aNil))) aNil)) (qSl (qVar 0) (oSome (qC (.int (1)))) (oSome (qC (.int (6))))))) (gqName 1) (sSeq (sSet 2 (qCallK (g__law_source_of C) (aCons (qVar 1) aNil)))
  (sSeq (sAsg (qCall (g__law_graphC C) (lLendM 2 (lKeep (qC (.int (8))) lNil))) (gqTup 2 (gqCons (gqName 3) (gqCons (gqName 4) gqNil))))
  (sSeq (sSet 7 (qCB (gDictP false) (bCons (qLc (iqEnum (aCons (qVar 3) aNil)) (gqTup 2 (gqCons (gqName 5) (gqCons (gqName 6) gqNil))) qYes (qTup (aCons (qVar 6) (aCons (qTup (aCons (qVar 5) (aCons (qMul (qVar 5) (qVar 5)) aNil))) aNil))) [5, 6]) bNil)))
  (sSeq (sSet 9 (qMake Cd (g_Drawing C Cd) (aCons (qMake C (g_Graph C) (aCons (qVar 3) (aCons (qVar 4) aNil))) (aCons (qFrz (qVar 7)) (aCons (qFrz (qCB (gDictP true) (bCons (qLc (iqAny (qVar 4)) (gqName 8) qYes (qTup (aCons (qVar 8) (aCons (qLst aNil) aNil))) [8]) bNil))) aNil)))))
  (sFor (iqRng1 (aCons (qC (.int (8))) aNil)) (gqName 10) (sSeq (sPar 11 12 (aCons (qCall (g__law_bad_edge C) (lLendM 2 (lKeep (qVar 3) (lKeep (qVar 4) lNil)))) (aCons (qCall (g__law_bad_edge C) (lLendM 2 (lKeep (qVar 3) (lKeep (qVar 4) lNil)))) aNil)))
  (sSeq (sIf (qTst gNeB (qCallK (g__law_said C Cd) (aCons (qVar 9) (aCons (qVar 11) (aCons (qVar 12) aNil)))) (qTup (aCons (qC (.str "no edge")) (aCons (qVar 11) aNil)))) (sRet (qC (.bl false))) sNil)
  (sIf (qTst gNe (qVar 4) (qLst aNil)) (sSeq (sSet 13 (qCall (g__law_one C) (lLendM 2 (lKeep (qVar 4) lNil))))
  (sSeq (sSet 14 (qCall (g__law_one C) (lLendM 2 (lKeep (qVar 4) lNil))))
  (sSeq (sIf (qOr (qTst gNeB (qCallK (g__law_said C Cd) (aCons (qVar 9) (aCons (qVar 13) (aCons (qVar 11) aNil)))) (qTup (aCons (qC (.str "no edge")) (aCons (qVar 11) aNil)))) (qTst gNeB (qCallK (g__law_said C Cd) (aCons (qVar 9) (aCons (qVar 11) (aCons (qVar 13) aNil)))) (qTup (aCons (qC (.str "no edge")) (aCons (qVar 11) aNil))))) (sRet (qC (.bl false))) sNil)
  (sSeq (sSet 15 (qC (.str "counted")))
  (sSeq (sIf (qTst gEq (qVar 13) (qVar 14)) (sSet 15 (qTup (aCons (qC (.str "no edge")) (aCons (qVar 14) aNil)))) sNil)
  (sIf (qTst gNeB (qCallK (g__law_said C Cd) (aCons (qVar 9) (aCons (qVar 13) (aCons (qVar 14) aNil)))) (qVar 15)) (sRet (qC (.bl false))) sNil)))))) sNil)))))))))
  (sRet (qC (.bl true))))
end CP
namespace CP
open PySem PySem.Spec PyProof.Rows L2
section
variable {G : Gh} {lv : Nat} {X : Cx} {o a : Expr} {es : List Expr} {qa qo : QE} {qA : QAs} {pos p p1 apos cpos : Pos} {e : PEnv} {M M' : Addr → Prop} {σ : L2.St} {H H' : Hp}
theorem NoDT.keep {x : V} (h : NoDT H x) (nm : ∀ p, x = .ref p → ¬ M p) (s : Step H M H' M') : NoDT H' x ∧ ∀ p, x = .ref p → ¬ M' p := by
  obtain ⟨p, o, us, rfl, h1, h2⟩ := h
  exact ⟨⟨p, o, us, rfl, s.keep _ _ h1 (nm p rfl), h2⟩, fun q e => by cases e; exact s.nm h1 (nm p rfl)⟩
variable {x : Str} {k : Nat} {f C : Addr} {fd : FuncData} {ps : List Str} {g : PG1}
end
section
variable {P : Program} {w : World} {K : PySem.W.Frag} {mg : Str → Option Value} {base : Heap} {x : Str} {st : Stmt} {N ps : List Str} {k : Nat} {q : QS} {g : PG1}
end
end CP
namespace CP
open PySem PySem.Spec PyProof.Rows L2
end CP
namespace CP
open PySem PySem.Spec PyProof.Rows L2
end CP
namespace CP
open PySem PySem.Spec PyProof.Rows L2
end CP
namespace CP
open PySem PySem.Spec PyProof.Rows L2
end CP
namespace CP
open PySem PySem.Spec PyProof.Rows L2
section
variable {ns ns' : List Str} {E E' : List Ed2}
end
theorem apart_cm (e f : Ed2) : apart e f = apart f e := by
  cases c : apart e f with
  | true => exact (ap_sym c).symm
  | false => cases d : apart f e with
    | false => rfl
    | true => rw [ap_sym d] at c; cases c
theorem prs_len_perm {es es2 : List Ed2} (h : es.Perm es2) : (prs es).length = (prs es2).length := by
  induction h with
  | nil => rfl
  | cons x h ih =>
    simp only [prs, List.length_append, List.length_map, ih, (h.filter _).length_eq]
  | swap x y l =>
    simp only [prs, List.length_append, List.length_map, List.filter_cons]
    rw [apart_cm y x]
    cases apart x y <;> simp <;> omega
  | trans _ _ a b => exact a.trans b
end CP
namespace CP
open PySem PySem.Spec PyProof.Rows L2
structure Asc (lo n : Nat) (l : List Nat) : Prop where
  pw : l.Pairwise (· < ·)
  rg : ∀ i ∈ l, lo ≤ i ∧ i < n
theorem Asc.mono {lo lo' n : Nat} {l : List Nat} (h : Asc lo n l) (le : lo' ≤ lo) : Asc lo' n l := ⟨h.pw, fun i hi => by have := h.rg i hi; omega⟩
def recLt : List Pr2 → List Pr2 → Bool
  | x :: xs, y :: ys => if x = y then recLt xs ys else encPr.lt x y
  | _, _ => false
end CP
namespace CP
open PySem PySem.Spec PyProof.Rows L2
def Drw (ns : List Str) (E : List Ed2) (r : List Pr2) : Prop := Made ns E (num E (cvx E ns) ^^^ num E r)
structure Least (ns : List Str) (E : List Ed2) (r : List Pr2) : Prop where
  sub : r.Sublist (prs E)
  drw : Drw ns E r
  min : ∀ k : List Pr2, k.Sublist (prs E) → Drw ns E k → r.length < k.length ∨ (r.length = k.length ∧ recLt k r = false)
def FW (ns : List Str) (E : List Ed2) (m : Nat) : Option (List Pr2) → Prop
  | none => ∀ k : List Pr2, k.Sublist (prs E) → Drw ns E k → m < k.length
  | some r => Least ns E r ∧ r.length ≤ m
theorem recLt_eq : ∀ {a b : List Pr2}, a.length = b.length → recLt a b = false → recLt b a = false → a = b
  | [], [], _, _, _ => rfl
  | x :: a, y :: b, hl, h1, h2 => by
    unfold recLt at h1 h2
    by_cases c : x = y
    · rw [if_pos c] at h1
      rw [if_pos c.symm] at h2
      rw [c, recLt_eq (by simpa using hl) h1 h2]
    · rw [if_neg c] at h1
      rw [if_neg fun q => c q.symm] at h2
      rw [encPr.total _ _ c h1] at h2; cases h2
  | [], _ :: _, hl, _, _ => by simp at hl
  | _ :: _, [], hl, _, _ => by simp at hl
section
variable {ns : List Str} {E : List Ed2}
theorem Least.one {r k : List Pr2} (h : Least ns E r) (h' : Least ns E k) : r = k := by
  rcases h.min k h'.sub h'.drw with a | ⟨a, b⟩ <;> rcases h'.min r h.sub h.drw with c | ⟨c, d⟩
  · omega
  · omega
  · omega
  · exact recLt_eq a d b
theorem FW.at {r : List Pr2} (h : Least ns E r) {m : Nat} {x : Option (List Pr2)} (hx : FW ns E m x) : x = if r.length ≤ m then some r else none := by
  cases x with
  | none =>
    have := hx r h.sub h.drw
    rw [if_neg (by omega)]
  | some k =>
    obtain ⟨h1, h2⟩ := hx
    have := h.one h1
    subst this
    rw [if_pos h2]
end
end CP
namespace CP
open PySem PySem.Spec PyProof.Rows L2
end CP
namespace CP
open PySem PySem.Spec PyProof.Rows L2
end CP
namespace CP
open PySem PySem.Spec PyProof.Rows L2
end CP
namespace CP
open PySem PySem.Spec PyProof.Rows L2
def ic (e : Ed2) (v : Str) : Bool := decide (v = e.1 ∨ v = e.2)
def mkp (e x : Ed2) : Pr2 := if encE.lt x e = true then (x, e) else (e, x)
def hat (f : Pr2 → Bool) (e x : Ed2) : Bool := apart e x && f (mkp e x)
theorem xorL_map {α β : Type} (f : β → Bool) (g : α → β) : ∀ l : List α, xorL f (l.map g) = xorL (fun x => f (g x)) l
  | [] => rfl
  | x :: l => by rw [List.map_cons, xorL, xorL, xorL_map f g l]
theorem xorL_app {α : Type} (f : α → Bool) : ∀ l m : List α, xorL f (l ++ m) = (xorL f l ^^ xorL f m)
  | [], m => by rw [List.nil_append, xorL, Bool.false_xor]
  | x :: l, m => by rw [List.cons_append, xorL, xorL, xorL_app f l m, Bool.xor_assoc]
theorem xorL_flips (f : Pr2 → Bool) (E : List Ed2) (c : Ca2) : xorL f (flips E c) = xorL (fun x => ic x c.2 && hat f c.1 x) E := by
  unfold flips
  rw [xorL_map, xorL_filter]
  refine xorL_congr fun x _ => ?_
  unfold ic hat mkp
  rw [Bool.and_assoc]
theorem hat_sym (f : Pr2 → Bool) (e x : Ed2) : hat f e x = hat f x e := by
  unfold hat
  rw [apart_cm x e]
  cases c : apart e x with
  | false => rfl
  | true =>
    have ne : e ≠ x := fun z => by rw [z, apart_self] at c; cases c
    congr 2
    unfold mkp
    cases d : encE.lt x e with
    | true => rw [if_pos rfl, if_neg (by rw [encE.asymm d]; decide)]
    | false => rw [if_neg (by decide), if_pos (encE.total _ _ (fun z => ne z.symm) d)]
theorem hat_pr {E : List Ed2} (h : encE.asc E) (f : Pr2 → Bool) {p : Pr2} (hp : p ∈ prs E) : hat f p.1 p.2 = f p := by
  obtain ⟨_, _, l, a⟩ := (prs_iff h).mp hp
  unfold hat mkp
  rw [a, if_neg (by rw [encE.asymm l]; decide), Bool.true_and]
theorem hat_na {f : Pr2 → Bool} {e x : Ed2} (h : apart e x = false) : hat f e x = false := by unfold hat; rw [h]; rfl
theorem hat_ap (f : Pr2 → Bool) (e x : Ed2) : (apart e x && hat f e x) = hat f e x := by
  unfold hat; cases apart e x <;> rfl
theorem ic_or (e : Ed2) (v : Str) : ic e v = (decide (v = e.1) || decide (v = e.2)) := by
  unfold ic
  by_cases p : v = e.1 <;> by_cases q : v = e.2 <;> simp [p, q]
theorem apart_ic (e f : Ed2) : apart e f = (!(ic e f.1) && !(ic e f.2)) := by
  unfold apart ic
  by_cases p : f.1 = e.1 ∨ f.1 = e.2
  · rw [decide_eq_true p, decide_eq_false fun ⟨h1, _, h3, _⟩ => p.elim (fun z => h1 z.symm) fun z => h3 z.symm]; rfl
  · by_cases q : f.2 = e.1 ∨ f.2 = e.2
    · rw [decide_eq_true q, decide_eq_false fun ⟨_, h2, _, h4⟩ => q.elim (fun z => h2 z.symm) fun z => h4 z.symm, Bool.not_true, Bool.and_false]
    · rw [decide_eq_false p, decide_eq_false q]
      exact decide_eq_true ⟨fun z => p (.inl z.symm), fun z => q (.inl z.symm), fun z => p (.inr z.symm), fun z => q (.inr z.symm)⟩
def up (o ha hb : Ed2) (x : Ed2) : Ed2 := if x = ha ∨ x = hb then o else x
def dn (o ha : Ed2) (x : Ed2) : Ed2 := if x = o then ha else x
def via (J : Ed2 → Ed2) (f : Pr2 → Bool) (p : Pr2) : Bool := hat f (J p.1) (J p.2)
theorem hat_via (J : Ed2 → Ed2) (f : Pr2 → Bool) (e x : Ed2) : hat (via J f) e x = (apart e x && hat f (J e) (J x)) := by
  show (apart e x && via J f (mkp e x)) = _
  unfold mkp via
  cases encE.lt x e with
  | true => rw [if_pos rfl, hat_sym]
  | false => rw [if_neg (by decide)]
structure Div (ns : List Str) (E : List Ed2) (ns' : List Str) (E' : List Ed2) (o ha hb : Ed2) (a b z : Str) : Prop where
  g : GrOk ns E
  g' : GrOk ns' E'
  oE : o ∈ E
  nz : z ∉ ns
  nv : ∀ v, v ∈ ns' ↔ v ∈ ns ∨ v = z
  ne : ∀ e, e ∈ E' ↔ (e ∈ E ∧ e ≠ o) ∨ e = ha ∨ e = hb
  io : ∀ v, ic o v = (decide (v = a) || decide (v = b))
  ia : ∀ v, ic ha v = (decide (v = a) || decide (v = z))
  ib : ∀ v, ic hb v = (decide (v = b) || decide (v = z))
  ab : a ≠ b
section
variable {ns ns' : List Str} {E E' : List Ed2} {o ha hb : Ed2} {a b z : Str}
theorem Div.symm (h : Div ns E ns' E' o ha hb a b z) : Div ns E ns' E' o hb ha b a z where
  g := h.g
  g' := h.g'
  oE := h.oE
  nz := h.nz
  nv := h.nv
  ne := fun e => (h.ne e).trans (or_congr Iff.rfl or_comm)
  io := fun v => (h.io v).trans (Bool.or_comm ..)
  ia := h.ib
  ib := h.ia
  ab := fun z => h.ab z.symm
theorem up_symm (o ha hb : Ed2) : up o ha hb = up o hb ha := by
  funext x
  unfold up
  by_cases p : x = ha <;> by_cases q : x = hb <;> simp [p, q]
theorem ic_in (hg : GrOk ns E) {e : Ed2} (he : e ∈ E) {v : Str} (h : v ∉ ns) : ic e v = false := by
  have := hg.ed e he
  unfold ic
  exact decide_eq_false fun q => q.elim (fun q => h (q ▸ this.l)) fun q => h (q ▸ this.r)
theorem ic_one (e : Ed2) : ic e e.1 = true := decide_eq_true (.inl rfl)
theorem ic_two (e : Ed2) : ic e e.2 = true := decide_eq_true (.inr rfl)
theorem apart_by {e f : Ed2} {u v : Str} (h : ∀ w, ic f w = (decide (w = u) || decide (w = v))) : apart e f = (!(ic e u) && !(ic e v)) := by
  rw [apart_ic]
  have h1 := h f.1
  have h2 := h f.2
  have h3 := h u
  have h4 := h v
  rw [ic_one] at h1
  rw [ic_two] at h2
  rw [decide_eq_true rfl, Bool.true_or] at h3
  rw [decide_eq_true (p := v = v) rfl, Bool.or_true] at h4
  have h3 := of_decide_eq_true h3
  have h4 := of_decide_eq_true h4
  have key : (ic e f.1 = true ∨ ic e f.2 = true) ↔ (ic e u = true ∨ ic e v = true) := by
    constructor
    · rintro (q | q)
      · rcases (Bool.or_eq_true_iff.mp h1.symm) with r | r
        · exact .inl (of_decide_eq_true r ▸ q)
        · exact .inr (of_decide_eq_true r ▸ q)
      · rcases (Bool.or_eq_true_iff.mp h2.symm) with r | r
        · exact .inl (of_decide_eq_true r ▸ q)
        · exact .inr (of_decide_eq_true r ▸ q)
    · rintro (q | q)
      · rcases h3 with r | r
        · exact .inl (r ▸ q)
        · exact .inr (r ▸ q)
      · rcases h4 with r | r
        · exact .inl (r ▸ q)
        · exact .inr (r ▸ q)
  cases p1 : ic e f.1 <;> cases p2 : ic e f.2 <;> cases p3 : ic e u <;> cases p4 : ic e v <;> simp [p1, p2, p3, p4] at key ⊢
end
end CP
namespace CP
open PySem PySem.Spec PyProof.Rows L2
section
variable {ns ns' : List Str} {E E' : List Ed2} {o ha hb : Ed2} {a b z : Str}
def rest (E : List Ed2) (o : Ed2) : List Ed2 := E.filter fun e => decide (e ≠ o)
theorem mem_rest {x : Ed2} : x ∈ rest E o ↔ x ∈ E ∧ x ≠ o := by
  unfold rest
  rw [List.mem_filter, decide_eq_true_iff]
theorem Div.an (h : Div ns E ns' E' o ha hb a b z) : a ∈ ns := by
  refine Decidable.byContradiction fun c => ?_
  have := ic_in h.g h.oE c
  rw [h.io, decide_eq_true (p := a = a) rfl] at this
  cases this
theorem Div.az (h : Div ns E ns' E' o ha hb a b z) : a ≠ z := fun e => h.nz (e ▸ h.an)
theorem Div.ra (h : Div ns E ns' E' o ha hb a b z) {x : Ed2} (hx : x ∈ rest E o) : x ≠ ha := fun e => by
  have := ic_in h.g (mem_rest.mp hx).1 h.nz
  rw [e, h.ia, decide_eq_true (p := z = z) rfl, Bool.or_true] at this
  cases this
theorem Div.rb (h : Div ns E ns' E' o ha hb a b z) {x : Ed2} (hx : x ∈ rest E o) : x ≠ hb := h.symm.ra hx
theorem Div.nh (h : Div ns E ns' E' o ha hb a b z) : ha ≠ hb := fun e => by
  have := h.ia a
  rw [e, h.ib, decide_eq_true (p := a = a) rfl, decide_eq_false h.ab, decide_eq_false h.az] at this
  cases this
theorem Div.perm' (h : Div ns E ns' E' o ha hb a b z) : E'.Perm (rest E o ++ [ha, hb]) := by
  refine (List.perm_ext_iff_of_nodup h.g'.end_ ?_).mpr fun e => ?_
  · refine List.nodup_append.mpr ⟨h.g.end_.filter _, ?_, fun x hx y hy => ?_⟩
    · exact List.nodup_cons.mpr ⟨fun q => h.nh (List.mem_singleton.mp q), List.nodup_cons.mpr ⟨fun q => (nomatch q), List.nodup_nil⟩⟩
    · rcases List.mem_cons.mp hy with rfl | hy
      · exact h.ra hx
      · rw [List.mem_singleton.mp hy]; exact h.rb hx
  · rw [h.ne, List.mem_append, mem_rest, List.mem_cons, List.mem_singleton]
theorem Div.perm (h : Div ns E ns' E' o ha hb a b z) : E.Perm (o :: rest E o) := by
  refine (List.perm_ext_iff_of_nodup h.g.end_ (List.nodup_cons.mpr ⟨fun q => (mem_rest.mp q).2 rfl, h.g.end_.filter _⟩)).mpr fun e => ?_
  rw [List.mem_cons, mem_rest]
  by_cases c : e = o
  · simp [c, h.oE]
  · simp [c]
theorem Div.sum' (h : Div ns E ns' E' o ha hb a b z) (F : Ed2 → Bool) : xorL F E' = (xorL F (rest E o) ^^ (F ha ^^ F hb)) := by
  rw [xorL_perm h.perm', xorL_app]
  simp only [xorL, Bool.xor_false]
theorem Div.sum (h : Div ns E ns' E' o ha hb a b z) (F : Ed2 → Bool) : xorL F E = (F o ^^ xorL F (rest E o)) := by
  rw [xorL_perm h.perm, xorL]
theorem Div.ora (h : Div ns E ns' E' o ha hb a b z) {e : Ed2} : apart e o = (!(ic e a) && !(ic e b)) := apart_by h.io
theorem Div.apa (h : Div ns E ns' E' o ha hb a b z) {e : Ed2} (he : e ∈ rest E o) : apart e ha = !(ic e a) := by
  rw [apart_by h.ia, ic_in h.g (mem_rest.mp he).1 h.nz, Bool.not_false, Bool.and_true]
theorem Div.apb (h : Div ns E ns' E' o ha hb a b z) {e : Ed2} (he : e ∈ rest E o) : apart e hb = !(ic e b) := h.symm.apa he
theorem Div.hh (h : Div ns E ns' E' o ha hb a b z) : apart ha hb = false := by
  rw [apart_by h.ib, h.ia z, decide_eq_true (p := z = z) rfl, Bool.or_true, Bool.not_true, Bool.and_false]
theorem up_r (h : Div ns E ns' E' o ha hb a b z) {x : Ed2} (hx : x ∈ rest E o) : up o ha hb x = x := by
  unfold up
  rw [if_neg fun q => q.elim (h.ra hx) (h.rb hx)]
theorem up_a (o ha hb : Ed2) : up o ha hb ha = o := if_pos (.inl rfl)
theorem up_b (o ha hb : Ed2) : up o ha hb hb = o := if_pos (.inr rfl)
theorem dn_r {x : Ed2} (hx : x ∈ rest E o) : dn o ha x = x := if_neg (mem_rest.mp hx).2
theorem dn_o (o ha : Ed2) : dn o ha o = ha := if_pos rfl
theorem hat_oa (h : Div ns E ns' E' o ha hb a b z) (f : Pr2 → Bool) {e : Ed2} (he : e ∈ rest E o) : (apart e ha && hat f e o) = hat f e o := by
  cases c : apart e ha with
  | true => rfl
  | false =>
    rw [h.apa he] at c
    have : apart e o = false := by rw [h.ora, c]; rfl
    rw [hat_na this]; rfl
theorem ca_in {c : Ca2} : CaOk ns E c ↔ c.1 ∈ E ∧ c.2 ∈ ns ∧ ic c.1 c.2 = false := by
  unfold ic
  constructor
  · intro h
    exact ⟨h.e, h.v, decide_eq_false fun q => q.elim h.n1 h.n2⟩
  · rintro ⟨h1, h2, h3⟩
    have h3 := of_decide_eq_false h3
    exact ⟨h1, h2, fun q => h3 (.inl q), fun q => h3 (.inr q)⟩
theorem up_half (h : Div ns E ns' E' o ha hb a b z) {f : Pr2 → Bool} (hf : Wf ns E f) {v : Str} (hv : v ∈ ns') (c : ic ha v = false) :
    xorL (fun x => ic x v && hat (via (up o ha hb) f) ha x) E' = false := by
  rw [h.sum']
  have va : v ≠ a := fun q => by rw [h.ia, decide_eq_true q] at c; cases c
  have vz : v ≠ z := fun q => by rw [h.ia, decide_eq_true q, Bool.or_true] at c; cases c
  have vn : v ∈ ns := ((h.nv v).mp hv).resolve_right vz
  rw [hat_na (e := ha) (x := ha) (apart_self ha), hat_na h.hh, Bool.and_false, Bool.and_false, Bool.xor_false, Bool.xor_false]
  have e1 : xorL (fun x => ic x v && hat (via (up o ha hb) f) ha x) (rest E o) = xorL (fun x => ic x v && hat f o x) (rest E o) := xorL_congr fun x hx => by
    rw [hat_via, up_a, up_r h hx, hat_sym f o x, apart_cm, hat_oa h f hx]
  rw [e1]
  by_cases vb : v = b
  · refine xorL_none fun x hx => ?_
    cases d : ic x v with
    | false => rfl
    | true =>
      rw [hat_sym, hat_na (by rw [h.ora, ← vb, d, Bool.not_true, Bool.and_false])]; rfl
  · have w := hf (o, v) (ca_in.mpr ⟨h.oE, vn, by show ic o v = false; rw [h.io, decide_eq_false va, decide_eq_false vb]; rfl⟩)
    rw [xorL_flips, h.sum] at w
    have : hat f o o = false := hat_na (apart_self o)
    simp only [this, Bool.and_false, Bool.false_xor] at w
    exact w
theorem Div.up (h : Div ns E ns' E' o ha hb a b z) {f : Pr2 → Bool} (hf : Wf ns E f) : Wf ns' E' (via (CP.up o ha hb) f) := fun c hc => by
  obtain ⟨ce, cv, ci⟩ := ca_in.mp hc
  obtain ⟨e, v⟩ := c
  rw [xorL_flips]
  show xorL (fun x => ic x v && hat (via (CP.up o ha hb) f) e x) E' = false
  have ce : (e ∈ E ∧ e ≠ o) ∨ e = ha ∨ e = hb := (h.ne e).mp ce
  have ci : ic e v = false := ci
  have cv : v ∈ ns' := cv
  rcases ce with ce | rfl | rfl
  · have he : e ∈ rest E o := mem_rest.mpr ce
    rw [h.sum']
    have e1 : xorL (fun x => ic x v && hat (via (CP.up o ha hb) f) e x) (rest E o) = xorL (fun x => ic x v && hat f e x) (rest E o) := xorL_congr fun x hx => by
      rw [hat_via, up_r h he, up_r h hx, hat_ap]
    have e2 : hat (via (CP.up o ha hb) f) e ha = hat f e o := by rw [hat_via, up_r h he, up_a, hat_oa h f he]
    have e3 : hat (via (CP.up o ha hb) f) e hb = hat f e o := by rw [hat_via, up_r h he, up_b, hat_oa h.symm f he]
    rw [e1, e2, e3, h.ia, h.ib]
    by_cases vz : v = z
    · have : xorL (fun x => ic x v && hat f e x) (rest E o) = false := xorL_none fun x hx => by
        rw [vz, ic_in h.g (mem_rest.mp hx).1 h.nz]; rfl
      rw [this, decide_eq_true vz, Bool.or_true, Bool.or_true]
      cases hat f e o <;> rfl
    · have vn : v ∈ ns := ((h.nv v).mp cv).resolve_right vz
      have w := hf (e, v) (ca_in.mpr ⟨ce.1, vn, ci⟩)
      rw [xorL_flips, h.sum] at w
      have w : ((ic o v && hat f e o) ^^ xorL (fun x => ic x v && hat f e x) (rest E o)) = false := w
      rw [h.io] at w
      rw [decide_eq_false vz, Bool.or_false, Bool.or_false]
      rw [← w]
      by_cases va : v = a
      · have vb : v ≠ b := fun q => h.ab (va.symm.trans q)
        rw [decide_eq_true va, decide_eq_false vb]
        cases hat f e o <;> cases xorL (fun x => ic x v && hat f e x) (rest E o) <;> rfl
      · rw [decide_eq_false va]
        cases decide (v = b) <;> cases hat f e o <;> cases xorL (fun x => ic x v && hat f e x) (rest E o) <;> rfl
  · exact up_half h hf cv ci
  · rw [up_symm]; exact up_half h.symm hf cv ci
theorem halves_same (h : Div ns E ns' E' o ha hb a b z) {f : Pr2 → Bool} (hf : Wf ns' E' f) {e : Ed2} (he : e ∈ rest E o) : hat f e ha = hat f e hb := by
  have w := hf (e, z) (ca_in.mpr ⟨(h.ne e).mpr (.inl (mem_rest.mp he)), (h.nv z).mpr (.inr rfl), ic_in h.g (mem_rest.mp he).1 h.nz⟩)
  rw [xorL_flips, h.sum'] at w
  have w : (xorL (fun x => ic x z && hat f e x) (rest E o) ^^ ((ic ha z && hat f e ha) ^^ (ic hb z && hat f e hb))) = false := w
  rw [xorL_none fun x hx => by rw [ic_in h.g (mem_rest.mp hx).1 h.nz]; rfl, h.ia, h.ib, decide_eq_true (p := z = z) rfl, Bool.or_true, Bool.or_true] at w
  revert w
  cases hat f e ha <;> cases hat f e hb <;> decide
theorem half_na (h : Div ns E ns' E' o ha hb a b z) {f : Pr2 → Bool} (hf : Wf ns' E' f) {e : Ed2} (he : e ∈ rest E o) : (apart e o && hat f e ha) = hat f e ha := by
  cases c : apart e o with
  | true => rfl
  | false =>
    rw [h.ora] at c
    cases d : ic e a with
    | true => rw [hat_na (by rw [h.apa he, d]; rfl)]; rfl
    | false =>
      cases d2 : ic e b with
      | true => rw [halves_same h hf he, hat_na (by rw [h.apb he, d2]; rfl)]; rfl
      | false => rw [d, d2] at c; cases c
theorem Div.down (h : Div ns E ns' E' o ha hb a b z) {f : Pr2 → Bool} (hf : Wf ns' E' f) : Wf ns E (via (dn o ha) f) := fun c hc => by
  obtain ⟨ce, cv, ci⟩ := ca_in.mp hc
  obtain ⟨e, v⟩ := c
  rw [xorL_flips]
  show xorL (fun x => ic x v && hat (via (dn o ha) f) e x) E = false
  have ce : e ∈ E := ce
  have ci : ic e v = false := ci
  have cv : v ∈ ns := cv
  have vz : v ≠ z := fun q => h.nz (q ▸ cv)
  rw [h.sum]
  by_cases eo : e = o
  · subst eo
    rw [h.io] at ci
    have va : v ≠ a := fun q => by rw [decide_eq_true q] at ci; cases ci
    have vb : v ≠ b := fun q => by rw [decide_eq_true q, Bool.or_true] at ci; cases ci
    have e1 : xorL (fun x => ic x v && hat (via (dn e ha) f) e x) (rest E e) = xorL (fun x => ic x v && hat f ha x) (rest E e) := xorL_congr fun x hx => by
      rw [hat_via, dn_o, dn_r hx, hat_sym f ha x, apart_cm, half_na h hf hx]
    rw [e1, hat_na (apart_self e), Bool.and_false, Bool.false_xor]
    have w := hf (ha, v) (ca_in.mpr ⟨(h.ne ha).mpr (.inr (.inl rfl)), (h.nv v).mpr (.inl cv), by show ic ha v = false; rw [h.ia, decide_eq_false va, decide_eq_false vz]; rfl⟩)
    rw [xorL_flips, h.sum'] at w
    have w : (xorL (fun x => ic x v && hat f ha x) (rest E e) ^^ ((ic ha v && hat f ha ha) ^^ (ic hb v && hat f ha hb))) = false := w
    rw [h.ia, h.ib, decide_eq_false va, decide_eq_false vz, decide_eq_false vb] at w
    simpa using w
  · have he : e ∈ rest E o := mem_rest.mpr ⟨ce, eo⟩
    have e1 : xorL (fun x => ic x v && hat (via (dn o ha) f) e x) (rest E o) = xorL (fun x => ic x v && hat f e x) (rest E o) := xorL_congr fun x hx => by
      rw [hat_via, dn_r he, dn_r hx, hat_ap]
    have e2 : hat (via (dn o ha) f) e o = hat f e ha := by rw [hat_via, dn_r he, dn_o, half_na h hf he]
    rw [e1, e2]
    have w := hf (e, v) (ca_in.mpr ⟨(h.ne e).mpr (.inl ⟨ce, eo⟩), (h.nv v).mpr (.inl cv), ci⟩)
    rw [xorL_flips, h.sum'] at w
    have w : (xorL (fun x => ic x v && hat f e x) (rest E o) ^^ ((ic ha v && hat f e ha) ^^ (ic hb v && hat f e hb))) = false := w
    rw [← halves_same h hf he, h.ia, h.ib, decide_eq_false vz, Bool.or_false, Bool.or_false] at w
    rw [h.io, ← w]
    by_cases va : v = a
    · have vb : v ≠ b := fun q => h.ab (va.symm.trans q)
      rw [decide_eq_true va, decide_eq_false vb]
      cases hat f e ha <;> cases xorL (fun x => ic x v && hat f e x) (rest E o) <;> rfl
    · rw [decide_eq_false va]
      cases decide (v = b) <;> cases hat f e ha <;> cases xorL (fun x => ic x v && hat f e x) (rest E o) <;> rfl
end
end CP
namespace CP
open PySem PySem.Spec PyProof.Rows L2
theorem via_add (J : Ed2 → Ed2) (f g : Pr2 → Bool) (p : Pr2) : via J (fun q => f q ^^ g q) p = (via J f p ^^ via J g p) := by
  unfold via hat
  cases apart (J p.1) (J p.2) <;> simp
theorem mkp_sym {e x : Ed2} (ne : e ≠ x) : mkp e x = mkp x e := by
  unfold mkp
  cases d : encE.lt x e with
  | true => rw [if_pos rfl, if_neg (by rw [encE.asymm d]; decide)]
  | false => rw [if_neg (by decide), if_pos (encE.total _ _ (fun z => ne z.symm) d)]
theorem ap_neq {e x : Ed2} (h : apart e x = true) : e ≠ x := fun z => by rw [z, apart_self] at h; cases h
theorem mkp_in {E : List Ed2} (asc : encE.asc E) {e x : Ed2} (he : e ∈ E) (hx : x ∈ E) (h : apart e x = true) : mkp e x ∈ prs E := by
  unfold mkp
  cases d : encE.lt x e with
  | true => rw [if_pos rfl]; exact (prs_iff asc).mpr ⟨hx, he, d, by rw [apart_cm]; exact h⟩
  | false => rw [if_neg (by decide)]; exact (prs_iff asc).mpr ⟨he, hx, encE.total _ _ (fun z => ap_neq h z.symm) d, h⟩
theorem mkp_pr {E : List Ed2} (asc : encE.asc E) {p : Pr2} (hp : p ∈ prs E) : mkp p.1 p.2 = p := by
  obtain ⟨_, _, l, _⟩ := (prs_iff asc).mp hp
  unfold mkp
  rw [if_neg (by rw [encE.asymm l]; decide)]
theorem hat_mkp (f : Pr2 → Bool) (e x : Ed2) : hat f e x = (apart e x && f (mkp e x)) := rfl
section
variable {ns ns' : List Str} {E E' : List Ed2} {o ha hb : Ed2} {a b z : Str}
theorem up_dn (h : Div ns E ns' E' o ha hb a b z) {x : Ed2} (hx : x ∈ E) : up o ha hb (dn o ha x) = x := by
  by_cases c : x = o
  · rw [c, dn_o, up_a]
  · rw [dn_r (mem_rest.mpr ⟨hx, c⟩), up_r h (mem_rest.mpr ⟨hx, c⟩)]
theorem up_in (h : Div ns E ns' E' o ha hb a b z) {x : Ed2} (hx : x ∈ E') : up o ha hb x ∈ E := by
  rcases (h.ne x).mp hx with c | rfl | rfl
  · rw [up_r h (mem_rest.mpr c)]; exact c.1
  · rw [up_a]; exact h.oE
  · rw [up_b]; exact h.oE
theorem dn_in (h : Div ns E ns' E' o ha hb a b z) {x : Ed2} (hx : x ∈ E) : dn o ha x ∈ E' := by
  by_cases c : x = o
  · rw [c, dn_o]; exact (h.ne ha).mpr (.inr (.inl rfl))
  · rw [dn_r (mem_rest.mpr ⟨hx, c⟩)]; exact (h.ne x).mpr (.inl ⟨hx, c⟩)
theorem apart_oh (h : Div ns E ns' E' o ha hb a b z) {x : Ed2} (hx : x ∈ rest E o) (c : apart x o = true) : apart x ha = true := by
  rw [h.ora] at c
  rw [h.apa hx]
  exact (Bool.and_eq_true_iff.mp c).1
theorem apart_dn (h : Div ns E ns' E' o ha hb a b z) {x y : Ed2} (hx : x ∈ E) (hy : y ∈ E) (c : apart x y = true) : apart (dn o ha x) (dn o ha y) = true := by
  by_cases p : x = o
  · have yo : y ≠ o := fun q => ap_neq c (p.trans q.symm)
    rw [p, dn_o, dn_r (mem_rest.mpr ⟨hy, yo⟩), apart_cm]
    exact apart_oh h (mem_rest.mpr ⟨hy, yo⟩) (by rw [apart_cm, ← p]; exact c)
  · by_cases q : y = o
    · rw [q, dn_o, dn_r (mem_rest.mpr ⟨hx, p⟩)]
      exact apart_oh h (mem_rest.mpr ⟨hx, p⟩) (by rw [← q]; exact c)
    · rw [dn_r (mem_rest.mpr ⟨hx, p⟩), dn_r (mem_rest.mpr ⟨hy, q⟩)]; exact c
theorem dn_up_f (h : Div ns E ns' E' o ha hb a b z) (f : Pr2 → Bool) {p : Pr2} (hp : p ∈ prs E) : via (dn o ha) (via (up o ha hb) f) p = f p := by
  obtain ⟨h1, h2, _, ap⟩ := (prs_iff h.g.asc).mp hp
  show hat (via (up o ha hb) f) (dn o ha p.1) (dn o ha p.2) = f p
  rw [hat_via, up_dn h h1, up_dn h h2, apart_dn h h1 h2 ap, hat_pr h.g.asc f hp, Bool.true_and]
theorem ud1 (h : Div ns E ns' E' o ha hb a b z) {f : Pr2 → Bool} (hf : Wf ns' E' f) {x y : Ed2} (hx : x ∈ rest E o) (hy : y ∈ E') :
    (apart (up o ha hb x) (up o ha hb y) && hat f (dn o ha (up o ha hb x)) (dn o ha (up o ha hb y))) = hat f x y := by
  rw [up_r h hx, dn_r hx]
  rcases (h.ne y).mp hy with c | rfl | rfl
  · rw [up_r h (mem_rest.mpr c), dn_r (mem_rest.mpr c), hat_ap]
  · rw [up_a, dn_o, half_na h hf hx]
  · rw [up_b, dn_o, half_na h hf hx, halves_same h hf hx]
theorem up_dn_f (h : Div ns E ns' E' o ha hb a b z) {f : Pr2 → Bool} (hf : Wf ns' E' f) {p : Pr2} (hp : p ∈ prs E') : via (up o ha hb) (via (dn o ha) f) p = f p := by
  obtain ⟨h1, h2, _, ap⟩ := (prs_iff h.g'.asc).mp hp
  show hat (via (dn o ha) f) (up o ha hb p.1) (up o ha hb p.2) = f p
  rw [hat_via, ← hat_pr h.g'.asc f hp]
  rcases (h.ne p.1).mp h1 with c | c | c
  · exact ud1 h hf (mem_rest.mpr c) h2
  · rcases (h.ne p.2).mp h2 with d | d | d
    · rw [apart_cm, hat_sym f (dn _ _ _), hat_sym f p.1]; exact ud1 h hf (mem_rest.mpr d) h1
    · rw [c, d, apart_self] at ap; cases ap
    · rw [c, d, h.hh] at ap; cases ap
  · rcases (h.ne p.2).mp h2 with d | d | d
    · rw [apart_cm, hat_sym f (dn _ _ _), hat_sym f p.1]; exact ud1 h hf (mem_rest.mpr d) h1
    · rw [c, d, apart_cm, h.hh] at ap; cases ap
    · rw [c, d, apart_self] at ap; cases ap
theorem Div.nul (h : Div ns E ns' E' o ha hb a b z) : CP.nul ns' E' = CP.nul ns E := by
  refine Nat.le_antisymm (nul_le h.g' h.g (via (dn o ha)) (via_add _) (fun f hf => h.down hf) fun f hf e p hp => ?_) (nul_le h.g h.g' (via (CP.up o ha hb)) (via_add _) (fun f hf => h.up hf) fun f hf e p hp => ?_)
  · rw [← up_dn_f h hf hp]
    obtain ⟨h1, h2, _, _⟩ := (prs_iff h.g'.asc).mp hp
    show hat (via (dn o ha) f) (CP.up o ha hb p.1) (CP.up o ha hb p.2) = false
    rw [hat_mkp]
    cases c : apart (CP.up o ha hb p.1) (CP.up o ha hb p.2) with
    | false => rfl
    | true => rw [Bool.true_and]; exact e _ (mkp_in h.g.asc (up_in h h1) (up_in h h2) c)
  · rw [← dn_up_f h f hp]
    obtain ⟨h1, h2, _, ap⟩ := (prs_iff h.g.asc).mp hp
    show hat (via (CP.up o ha hb) f) (dn o ha p.1) (dn o ha p.2) = false
    rw [hat_mkp, apart_dn h h1 h2 ap, Bool.true_and]
    exact e _ (mkp_in h.g'.asc (dn_in h h1) (dn_in h h2) (apart_dn h h1 h2 ap))
theorem both_ends (h : Div ns E ns' E' o ha hb a b z) {x : Ed2} (hx : x ∈ rest E o) : ¬ (ic x a = true ∧ ic x b = true) := by
  rintro ⟨h1, h2⟩
  have m := mem_rest.mp hx
  refine m.2 ?_
  have lx := (h.g.ed x m.1).lt
  have lo := (h.g.ed o h.oE).lt
  have o1 := h.io o.1
  have o2 := h.io o.2
  rw [ic_one] at o1
  rw [ic_two] at o2
  have o1 := Bool.or_eq_true_iff.mp o1.symm
  have o2 := Bool.or_eq_true_iff.mp o2.symm
  simp only [decide_eq_true_iff] at o1 o2
  have h1 := of_decide_eq_true h1
  have h2 := of_decide_eq_true h2
  have no : ∀ u v : Str, strLt u v = true → strLt v u = true → False := fun u v p q => by
    have : strLt v u = false := encS.asymm p
    rw [this] at q; cases q
  have ne := h.ab
  obtain ⟨x1, x2⟩ := x
  obtain ⟨y1, y2⟩ := o
  simp only at h1 h2 o1 o2 lx lo ⊢
  rcases h1 with rfl | rfl <;> rcases h2 with e2 | e2 <;> rcases o1 with e3 | e3 <;> rcases o2 with e4 | e4 <;> first
    | exact absurd e2.symm ne
    | (subst e2 e3 e4; first | rfl | exact (no _ _ lx lo).elim | exact absurd rfl (strLt_ne lo))
theorem lens (h : Div ns E ns' E' o ha hb a b z) : ∀ l : List Ed2, (∀ x ∈ l, x ∈ rest E o) → (l.filter (apart ha)).length + (l.filter (apart hb)).length = l.length + (l.filter (apart o)).length
  | [], _ => rfl
  | x :: l, hl => by
    have hx := hl x List.mem_cons_self
    have ih := lens h l fun y hy => hl y (List.mem_cons_of_mem _ hy)
    have be := both_ends h hx
    rw [List.filter_cons, List.filter_cons, List.filter_cons, apart_cm ha, apart_cm hb, apart_cm o, h.apa hx, h.apb hx, h.ora, List.length_cons]
    cases p : ic x a <;> cases q : ic x b <;> simp [p, q] at be ⊢ <;> omega
theorem Div.pairs (h : Div ns E ns' E' o ha hb a b z) : (prs E').length = (prs E).length + (rest E o).length := by
  rw [prs_len_perm (h.perm'.trans List.perm_append_comm), prs_len_perm h.perm]
  have := lens h (rest E o) fun _ h => h
  show (((hb :: rest E o).filter (apart ha)).map _ ++ (((rest E o).filter (apart hb)).map _ ++ prs (rest E o))).length = (((rest E o).filter (apart o)).map _ ++ prs (rest E o)).length + _
  rw [List.filter_cons, h.hh, if_neg (by decide), List.length_append, List.length_append, List.length_append, List.length_map, List.length_map, List.length_map]
  omega
end
end CP
namespace CP
open PySem PySem.Spec PyProof.Rows L2
theorem xorL_xor {α : Type} (f g : α → Bool) : ∀ l : List α, xorL (fun x => f x ^^ g x) l = (xorL f l ^^ xorL g l)
  | [] => rfl
  | x :: l => by
    rw [xorL, xorL, xorL, xorL_xor f g l]
    cases f x <;> cases g x <;> cases xorL f l <;> cases xorL g l <;> rfl
section
variable {ns ns' : List Str} {E E' : List Ed2} {o ha hb : Ed2} {a b z : Str}
theorem made_sum (hg : GrOk ns E) {r c : List Pr2} (hr : RecOk E r) (hc : RecOk E c) : Made ns E (num E r ^^^ num E c) ↔ ∀ f, Wf ns E f → (xorL f r ^^ xorL f c) = false := by
  unfold num
  rw [nmf_xor, made_wf hg]
  refine forall_congr' fun f => forall_congr' fun _ => ?_
  have nP := prs_nd hg.asc
  rw [← xorL_in nP hr.nd hr.sub f, ← xorL_in nP hc.nd hc.sub f, ← xorL_xor]
  exact Iff.of_eq (congrArg (fun t => t = false) (xorL_congr fun p _ => by
    by_cases h1 : p ∈ r <;> by_cases h2 : p ∈ c <;> cases f p <;> simp [h1, h2]))
def has (o : Ed2) (p : Pr2) : Bool := decide (o = p.1 ∨ o = p.2)
def far (o : Ed2) (p : Pr2) : Ed2 := if p.1 = o then p.2 else p.1
theorem mkp_two (t e : Ed2) : mkp t e = (e, t) ∨ mkp t e = (t, e) := by
  unfold mkp
  cases encE.lt e t with
  | true => exact .inl (if_pos rfl)
  | false => exact .inr (if_neg (by decide))
end
end CP
namespace CP
open PySem PySem.Spec PyProof.Rows L2
def mv (σ : Str → Str) (e : Ed2) : Ed2 := if strLt (σ e.2) (σ e.1) = true then (σ e.2, σ e.1) else (σ e.1, σ e.2)
def pm (σ : Str → Str) (p : Pr2) : Pr2 := mkp (mv σ p.1) (mv σ p.2)
def cm (σ : Str → Str) (c : Ca2) : Ca2 := (mv σ c.1, σ c.2)
structure Ren (ns : List Str) (E : List Ed2) (ns' : List Str) (E' : List Ed2) (σ τ : Str → Str) : Prop where
  g : GrOk ns E
  g' : GrOk ns' E'
  st : ∀ v ∈ ns, σ v ∈ ns' ∧ τ (σ v) = v
  ts : ∀ v ∈ ns', τ v ∈ ns ∧ σ (τ v) = v
  se : ∀ e ∈ E, mv σ e ∈ E'
  te : ∀ e ∈ E', mv τ e ∈ E
theorem Ren.symm {ns ns' : List Str} {E E' : List Ed2} {σ τ : Str → Str} (h : Ren ns E ns' E' σ τ) : Ren ns' E' ns E τ σ := ⟨h.g', h.g, h.ts, h.st, h.te, h.se⟩
section
variable {ns ns' : List Str} {E E' : List Ed2} {σ τ : Str → Str}
theorem mv_two (σ : Str → Str) (e : Ed2) : mv σ e = (σ e.1, σ e.2) ∨ mv σ e = (σ e.2, σ e.1) := by
  unfold mv
  cases strLt (σ e.2) (σ e.1) with
  | true => exact .inr (if_pos rfl)
  | false => exact .inl (if_neg (by decide))
theorem Ren.inj (h : Ren ns E ns' E' σ τ) {u v : Str} (hu : u ∈ ns) (hv : v ∈ ns) (e : σ u = σ v) : u = v := by rw [← (h.st u hu).2, ← (h.st v hv).2, e]
theorem Ren.back (h : Ren ns E ns' E' σ τ) {e : Ed2} (he : e ∈ E) : mv τ (mv σ e) = e := by
  have d := h.g.ed e he
  have e1 := (h.st _ d.l).2
  have e2 := (h.st _ d.r).2
  have no : strLt e.2 e.1 = false := encS.asymm d.lt
  have lt := d.lt
  rcases mv_two σ e with q | q
  · rw [q]; unfold mv
    show (if strLt (τ (σ e.2)) (τ (σ e.1)) = true then (τ (σ e.2), τ (σ e.1)) else (τ (σ e.1), τ (σ e.2))) = e
    rw [e1, e2, no, if_neg (by decide)]
  · rw [q]; unfold mv
    show (if strLt (τ (σ e.1)) (τ (σ e.2)) = true then (τ (σ e.1), τ (σ e.2)) else (τ (σ e.2), τ (σ e.1))) = e
    rw [e1, e2, lt, if_pos rfl]
theorem Ren.ic (h : Ren ns E ns' E' σ τ) {e : Ed2} (he : e ∈ E) {v : Str} (hv : v ∈ ns) : CP.ic (mv σ e) (σ v) = CP.ic e v := by
  have d := h.g.ed e he
  have k : ∀ u ∈ ns, decide (σ v = σ u) = decide (v = u) := fun u hu => decide_eq_decide.mpr ⟨h.inj hv hu, fun q => by rw [q]⟩
  rw [ic_or, ic_or]
  rcases mv_two σ e with q | q
  · rw [q]; show (decide (σ v = σ e.1) || decide (σ v = σ e.2)) = _; rw [k _ d.l, k _ d.r]
  · rw [q]; show (decide (σ v = σ e.2) || decide (σ v = σ e.1)) = _; rw [k _ d.l, k _ d.r, Bool.or_comm]
theorem Ren.ap (h : Ren ns E ns' E' σ τ) {e x : Ed2} (he : e ∈ E) (hx : x ∈ E) : apart (mv σ e) (mv σ x) = apart e x := by
  have d := h.g.ed x hx
  have m := mv_two σ x
  rw [apart_ic, apart_ic, ← h.ic he d.l, ← h.ic he d.r]
  rcases m with q | q
  · rw [q]
  · rw [q]; exact Bool.and_comm ..
theorem Ren.perm (h : Ren ns E ns' E' σ τ) : E'.Perm (E.map (mv σ)) := by
  refine (List.perm_ext_iff_of_nodup h.g'.end_ ?_).mpr fun e => ?_
  · refine List.pairwise_map.mpr (h.g.end_.imp_of_mem fun {a} {b} ha hb ne q => ne ?_)
    rw [← h.back ha, ← h.back hb, q]
  · rw [List.mem_map]
    exact ⟨fun he => ⟨mv τ e, h.te e he, h.symm.back he⟩, fun ⟨x, hx, q⟩ => q ▸ h.se x hx⟩
theorem Ren.hat (h : Ren ns E ns' E' σ τ) (f : Pr2 → Bool) {e x : Ed2} (he : e ∈ E) (hx : x ∈ E) : CP.hat f (mv σ e) (mv σ x) = CP.hat (via (mv σ) f) e x := by
  rw [hat_via, ← h.ap he hx, hat_ap]
theorem Ren.flip (h : Ren ns E ns' E' σ τ) (f : Pr2 → Bool) {c : Ca2} (hc : CaOk ns E c) : xorL f (flips E' (cm σ c)) = xorL (via (mv σ) f) (flips E c) := by
  rw [xorL_flips, xorL_flips, xorL_perm h.perm, xorL_map]
  refine xorL_congr fun x hx => ?_
  show (CP.ic (mv σ x) (σ c.2) && CP.hat f (mv σ c.1) (mv σ x)) = _
  rw [h.ic hx hc.v, h.hat f hc.e hx]
theorem Ren.ca (h : Ren ns E ns' E' σ τ) {c : Ca2} (hc : CaOk ns E c) : CaOk ns' E' (cm σ c) := ca_in.mpr ⟨h.se _ hc.e, (h.st _ hc.v).1, by
  show CP.ic (mv σ c.1) (σ c.2) = false
  rw [h.ic hc.e hc.v]; exact (ca_in.mp hc).2.2⟩
theorem Ren.wf (h : Ren ns E ns' E' σ τ) {f : Pr2 → Bool} (hf : Wf ns' E' f) : Wf ns E (via (mv σ) f) := fun c hc => by
  rw [← h.flip f hc]; exact hf _ (h.ca hc)
theorem Ren.via_pm (h : Ren ns E ns' E' σ τ) (f : Pr2 → Bool) {p : Pr2} (hp : p ∈ prs E) : via (mv σ) f p = f (pm σ p) := by
  obtain ⟨h1, h2, _, ap⟩ := (prs_iff h.g.asc).mp hp
  show CP.hat f (mv σ p.1) (mv σ p.2) = _
  rw [hat_mkp, h.ap h1 h2, ap, Bool.true_and]; rfl
theorem Ren.pm_in (h : Ren ns E ns' E' σ τ) {p : Pr2} (hp : p ∈ prs E) : pm σ p ∈ prs E' := by
  obtain ⟨h1, h2, _, ap⟩ := (prs_iff h.g.asc).mp hp
  exact mkp_in h.g'.asc (h.se _ h1) (h.se _ h2) (by rw [h.ap h1 h2]; exact ap)
theorem Ren.pm_back (h : Ren ns E ns' E' σ τ) {p : Pr2} (hp : p ∈ prs E) : pm τ (pm σ p) = p := by
  obtain ⟨h1, h2, _, ap⟩ := (prs_iff h.g.asc).mp hp
  have ne := ap_neq ap
  have pp := mkp_pr h.g.asc hp
  show mkp (mv τ (mkp (mv σ p.1) (mv σ p.2)).1) (mv τ (mkp (mv σ p.1) (mv σ p.2)).2) = p
  rcases mkp_two (mv σ p.1) (mv σ p.2) with q | q
  · rw [q]
    show mkp (mv τ (mv σ p.2)) (mv τ (mv σ p.1)) = p
    rw [h.back h1, h.back h2, mkp_sym ne.symm]; exact pp
  · rw [q]
    show mkp (mv τ (mv σ p.1)) (mv τ (mv σ p.2)) = p
    rw [h.back h1, h.back h2]; exact pp
theorem Ren.pm_inj (h : Ren ns E ns' E' σ τ) {p q : Pr2} (hp : p ∈ prs E) (hq : q ∈ prs E) (e : pm σ p = pm σ q) : p = q := by rw [← h.pm_back hp, ← h.pm_back hq, e]
theorem Ren.rok (h : Ren ns E ns' E' σ τ) {r : List Pr2} (hr : RecOk E r) : RecOk E' (r.map (pm σ)) := ⟨List.pairwise_map.mpr (hr.nd.imp_of_mem fun ha hb ne q => ne (h.pm_inj (hr.sub _ ha) (hr.sub _ hb) q)), fun p hp => by
  obtain ⟨q, hq, rfl⟩ := List.mem_map.mp hp
  exact h.pm_in (hr.sub q hq)⟩
theorem Ren.mem (h : Ren ns E ns' E' σ τ) {r : List Pr2} (hr : ∀ p ∈ r, p ∈ prs E) {p : Pr2} (hp : p ∈ prs E) : pm σ p ∈ r.map (pm σ) ↔ p ∈ r := by
  rw [List.mem_map]
  exact ⟨fun ⟨q, hq, e⟩ => h.pm_inj (hr q hq) hp e ▸ hq, fun hq => ⟨p, hq, rfl⟩⟩
theorem Ren.sum (h : Ren ns E ns' E' σ τ) (f : Pr2 → Bool) {r : List Pr2} (hr : ∀ p ∈ r, p ∈ prs E) : xorL f (r.map (pm σ)) = xorL (via (mv σ) f) r := by
  rw [xorL_map]
  exact xorL_congr fun p hp => (h.via_pm f (hr p hp)).symm
theorem Ren.pairs (h : Ren ns E ns' E' σ τ) : (prs E').Perm ((prs E).map (pm σ)) := by
  refine (List.perm_ext_iff_of_nodup (prs_nd h.g'.asc) ?_).mpr fun p => ?_
  · exact List.pairwise_map.mpr ((prs_nd h.g.asc).imp_of_mem fun ha hb ne q => ne (h.pm_inj ha hb q))
  · rw [List.mem_map]
    exact ⟨fun hp => ⟨pm τ p, h.symm.pm_in hp, h.symm.pm_back hp⟩, fun ⟨q, hq, e⟩ => e ▸ h.pm_in hq⟩
theorem Ren.len (h : Ren ns E ns' E' σ τ) : (prs E').length = (prs E).length := by rw [h.pairs.length_eq, List.length_map]
theorem Ren.two (h : Ren ns E ns' E' σ τ) (f : Pr2 → Bool) {p : Pr2} (hp : p ∈ prs E) : via (mv σ) (via (mv τ) f) p = f p := by
  rw [h.via_pm _ hp, h.symm.via_pm _ (h.pm_in hp), h.pm_back hp]
theorem Ren.nul_le (h : Ren ns E ns' E' σ τ) : CP.nul ns' E' ≤ CP.nul ns E := CP.nul_le h.g' h.g (via (mv σ)) (via_add _) (fun f hf => h.wf hf) fun f hf e p hp => by
  have := e _ (h.symm.pm_in hp)
  rwa [h.via_pm _ (h.symm.pm_in hp), h.symm.pm_back hp] at this
theorem Ren.wit_up (h : Ren ns E ns' E' σ τ) {w : List Pr2} (hw : RecOk E w) (iw : isWit ns E w = true) : isWit ns' E' (w.map (pm σ)) = true := by
  refine (wit_wf h.g' (h.rok hw)).mpr (wf_congr h.g' (fun p hp => ?_) (h.symm.wf ((wit_wf h.g hw).mp iw)))
  rw [h.symm.via_pm _ hp]
  refine decide_eq_decide.mpr ?_
  rw [← h.mem hw.sub (h.symm.pm_in hp), h.symm.pm_back hp]
theorem Ren.wit (h : Ren ns E ns' E' σ τ) {w : List Pr2} (hw : RecOk E w) : isWit ns' E' (w.map (pm σ)) = isWit ns E w := by
  cases c : isWit ns E w with
  | true => exact h.wit_up hw c
  | false =>
    cases d : isWit ns' E' (w.map (pm σ)) with
    | false => rfl
    | true =>
      have := h.symm.wit_up (h.rok hw) d
      have e : (w.map (pm σ)).map (pm τ) = w := by
        rw [List.map_map]
        exact (List.map_congr_left (g := _root_.id) fun p hp => h.pm_back (hw.sub p hp)).trans (List.map_id w)
      rw [e] at this
      rw [this] at c; cases c
end
end CP
namespace CP
open PySem PySem.Spec PyProof.Rows L2
end CP
namespace CP
open PySem PySem.Spec PyProof.Rows L2
end CP
namespace CP
open PySem PySem.Spec PyProof.Rows L2
section
variable {ns ns' : List Str} {E E' : List Ed2} {σ τ : Str → Str}
theorem Ren.eq (h : Ren ns E ns' E' σ τ) {e x : Ed2} (he : e ∈ E) (hx : x ∈ E) : mv σ e = mv σ x ↔ e = x := ⟨fun q => by rw [← h.back he, ← h.back hx, q], fun q => by rw [q]⟩
theorem Ren.fl (h : Ren ns E ns' E' σ τ) {c : Ca2} (hc : CaOk ns E c) {p : Pr2} (hp : p ∈ prs E) : pm σ p ∈ flips E' (cm σ c) ↔ p ∈ flips E c := by
  obtain ⟨h1, h2, _, _⟩ := (prs_iff h.g.asc).mp hp
  have i1 : (CP.ic (mv σ p.1) (σ c.2) = true) ↔ (CP.ic p.1 c.2 = true) := by rw [h.ic h1 hc.v]
  have i2 : (CP.ic (mv σ p.2) (σ c.2) = true) ↔ (CP.ic p.2 c.2 = true) := by rw [h.ic h2 hc.v]
  have e1 := h.eq hc.e h1
  have e2 := h.eq hc.e h2
  have mf : ∀ {ns : List Str} {E : List Ed2} (hg : GrOk ns E) (c : Ca2) (p : Pr2), p ∈ prs E → (p ∈ flips E c ↔ (c.1 = p.1 ∧ CP.ic p.2 c.2 = true) ∨ (c.1 = p.2 ∧ CP.ic p.1 c.2 = true)) := fun hg c p hp => by
    rw [mem_flips hg hp]
    unfold CP.ic
    rw [decide_eq_true_iff, decide_eq_true_iff]
  rw [mf h.g' _ _ (h.pm_in hp), mf h.g _ _ hp]
  unfold pm
  rcases mkp_two (mv σ p.1) (mv σ p.2) with q | q
  · rw [q]
    show (mv σ c.1 = mv σ p.2 ∧ CP.ic (mv σ p.1) (σ c.2) = true) ∨ (mv σ c.1 = mv σ p.1 ∧ CP.ic (mv σ p.2) (σ c.2) = true) ↔ _
    rw [e1, e2, i1, i2]; exact or_comm
  · rw [q]
    show (mv σ c.1 = mv σ p.1 ∧ CP.ic (mv σ p.2) (σ c.2) = true) ∨ (mv σ c.1 = mv σ p.2 ∧ CP.ic (mv σ p.1) (σ c.2) = true) ↔ _
    rw [e1, e2, i1, i2]
end
end CP
namespace CP
open PySem PySem.Spec PyProof.Rows L2
end CP
namespace CP
open PySem PySem.Spec PyProof.Rows L2
section
variable {ns : List Str} {E : List Ed2}
theorem wf_num (hg : GrOk ns E) {f : Pr2 → Bool} (hf : Wf ns E f) : Spn (evens (rowsOf ns E) (prs E).length) (nmf f (prs E)) := evens_all_spn ((ev_wf hg f).mpr hf)
theorem nmf_z {f : Pr2 → Bool} (h : nmf f (prs E) = 0) : ∀ p ∈ prs E, f p = false := fun p hp => nmf_inj (f := f) (g := fun _ => false) (P := prs E) (by rw [h, nmf_none fun _ _ => rfl]) p hp
theorem wf_one (hg : GrOk ns E) (h : nul ns E = 1) (full : Wf ns E fun _ => true) {f : Pr2 → Bool} (hf : Wf ns E f) : (∀ p ∈ prs E, f p = false) ∨ ∀ p ∈ prs E, f p = true := by
  obtain ⟨x, ex⟩ := List.length_eq_one_iff.mp h
  have two : ∀ {n}, Spn (evens (rowsOf ns E) (prs E).length) n → n = 0 ∨ n = x := fun {n} s => by
    rw [ex] at s
    refine spn_ind (p := fun n => n = 0 ∨ n = x) (.inl rfl) (fun a b e1 e2 => ?_) (fun r hr => .inr (List.mem_singleton.mp hr)) s
    rcases e1 with rfl | rfl <;> rcases e2 with rfl | rfl
    · exact .inl rfl
    · exact .inr (Nat.zero_xor _)
    · exact .inr (Nat.xor_zero _)
    · exact .inl (Nat.xor_self _)
  rcases two (wf_num hg hf) with a | a
  · exact .inl (nmf_z a)
  · rcases two (wf_num hg full) with b | b
    · refine .inl fun p hp => ?_
      have := nmf_z b p hp
      cases this
    · exact .inr fun p hp => nmf_inj (a.trans b.symm) p hp
theorem wit_nil (hg : GrOk ns E) : isWit ns E [] = true := (wit_wf hg ⟨List.nodup_nil, fun p hp => nomatch hp⟩).mpr fun c hc => xorL_none fun p _ => decide_eq_false fun z => nomatch z
structure Odd1 (ns : List Str) (E : List Ed2) : Prop where
  g : GrOk ns E
  one : nul ns E = 1
  full : Wf ns E fun _ => true
  cv : ∀ os : List Str, os.Perm ns → (cvx E os).length % 2 = 1
theorem xorL_true {α : Type} : ∀ l : List α, xorL (fun _ => true) l = decide (l.length % 2 = 1)
  | [] => rfl
  | x :: l => by
    rw [xorL, xorL_true l, List.length_cons]
    by_cases c : l.length % 2 = 1
    · rw [decide_eq_true c, decide_eq_false (by omega)]; rfl
    · rw [decide_eq_false c, decide_eq_true (by omega)]; rfl
theorem Odd1.all (h : Odd1 ns E) : isWit ns E (prs E) = true := (wit_wf h.g ⟨prs_nd h.g.asc, fun _ h => h⟩).mpr (wf_congr h.g (fun p hp => (decide_eq_true hp).symm) h.full)
theorem Odd1.wit (h : Odd1 ns E) {r : List Pr2} (hr : r.Sublist (prs E)) (iw : isWit ns E r = true) : r = [] ∨ r = prs E := by
  have ok := sub_ok h.g hr
  rcases wf_one h.g h.one h.full ((wit_wf h.g ok).mp iw) with z | z
  · refine .inl ?_
    cases r with
    | nil => rfl
    | cons p r => have := z p (ok.sub p List.mem_cons_self); rw [decide_eq_true List.mem_cons_self] at this; cases this
  · refine .inr (hr.eq_of_length_le ?_)
    exact nodup_le (prs_nd h.g.asc) fun p hp => of_decide_eq_true (z p hp)
theorem Odd1.isWit (h : Odd1 ns E) {r : List Pr2} (hr : r.Sublist (prs E)) : CP.isWit ns E r = decide (r = [] ∨ r = prs E) := by
  by_cases c : r = [] ∨ r = prs E
  · rw [decide_eq_true c]
    rcases c with rfl | rfl
    · exact wit_nil h.g
    · exact h.all
  · rw [decide_eq_false c]
    cases d : CP.isWit ns E r with
    | false => rfl
    | true => exact absurd (h.wit hr d) c
theorem Odd1.made (h : Odd1 ns E) {r c : List Pr2} (hr : RecOk E r) (hc : RecOk E c) : Made ns E (num E r ^^^ num E c) ↔ r.length % 2 = c.length % 2 := by
  rw [made_sum h.g hr hc]
  have tt : ∀ l : List Pr2, (∀ p ∈ l, p ∈ prs E) → ∀ f : Pr2 → Bool, (∀ p ∈ prs E, f p = true) → xorL f l = decide (l.length % 2 = 1) := fun l hl f hf => by
    rw [← xorL_true]; exact xorL_congr fun p hp => hf p (hl p hp)
  constructor
  · intro q
    have := q _ h.full
    rw [tt r hr.sub _ fun _ _ => rfl, tt c hc.sub _ fun _ _ => rfl] at this
    have m1 : r.length % 2 < 2 := Nat.mod_lt _ (by decide)
    have m2 : c.length % 2 < 2 := Nat.mod_lt _ (by decide)
    by_cases a : r.length % 2 = 1 <;> by_cases b : c.length % 2 = 1
    · omega
    · rw [decide_eq_true a, decide_eq_false b] at this; cases this
    · rw [decide_eq_false a, decide_eq_true b] at this; cases this
    · omega
  · intro e f hf
    rcases wf_one h.g h.one h.full hf with z | z
    · rw [xorL_none fun p hp => z p (hr.sub p hp), xorL_none fun p hp => z p (hc.sub p hp)]; rfl
    · rw [tt r hr.sub f z, tt c hc.sub f z, e, Bool.xor_self]
theorem Odd1.word (h : Odd1 ns E) {r : List Pr2} (hr : RecOk E r) {os : List Str} (po : os.Perm ns) : (lead ns E (num E (cvx E os) ^^^ num E r)).1 = "carries" ↔ r.length % 2 = 1 := by
  rw [(lead_word ns E _).1, h.made (cvx_ok h.g os) hr, h.cv os po]
  exact eq_comm
end
end CP
namespace CP
open PySem PySem.Spec PyProof.Rows L2
end CP
namespace CP
open PySem PySem.Spec PyProof.Rows L2
end CP
namespace CP
open PySem PySem.Spec PyProof.Rows L2
end CP
namespace CP
open PySem PySem.Spec PyProof.Rows L2
end CP
namespace CP
open PySem PySem.Spec PyProof.Rows L2
theorem edB_eq {es : List Ed2} {p : PV} (h : edB es p = true) : ∃ e ∈ es, p = pE e := by
  unfold edB at h
  split at h
  · exact ⟨(_, _), of_decide_eq_true h, rfl⟩
  · cases h
theorem hqx_crossings (C Cd CE : Addr) : ∀ ss K, gx_crossings C Cd CE ss K → qx_crossings C Cd CE (bodyX K) (startE 7 ss) := by
  rintro _ K ⟨ns, es, f, b, p1, p2, x, hg, ⟨o1, o2⟩, hx, rfl, h⟩
  conv => whnf
  refine ⟨rfl, ?_⟩
  conv => whnf
  refine ⟨ns, es, p1, hg, o1, rfl, ?_⟩
  rcases hx with ⟨h1, rfl⟩ | ⟨h1, h2, rfl⟩
  · rw [h1]
    exact h
  · rw [h1]
    conv => whnf
    refine ⟨rfl, ?_⟩
    conv => whnf
    refine ⟨ns, es, x, hg, o2, rfl, ?_⟩
    cases c : edB es x with
    | false => exact h
    | true =>
      rcases h2 with h2 | h2
      · rw [c] at h2; cases h2
      · subst h2
        obtain ⟨e, he, rfl⟩ := edB_eq c
        have ok := hg.okE he
        conv => whnf
        refine ⟨shpE ok, shpE ok, ?_⟩
        rw [show PyData.eqv (PV.toD (pE e)) (PV.toD (pE e)) = true from (encE.eqv _ _).trans (decide_eq_true rfl)]
        exact h
theorem hq__law_said (C Cd CE : Addr) : ∀ ss Q, g__law_said C Cd ss Q → q__law_said C Cd CE (bodyEnds 3 Q) (startE 4 ss) := by
  rintro _ Q ⟨ns, es, f, b, p1, p2, hg, nr, ⟨o1, o2⟩, rfl, h⟩
  conv => whnf
  cases c1 : edB es p1 with
  | false => exact .inr ⟨(by decide : 3 < 4), ns, es, f, b, p1, p2, p1, hg, ⟨o1, o2⟩, .inl ⟨c1, rfl⟩, rfl, p1, rfl, h _ (.inl ⟨c1, rfl⟩)⟩
  | true =>
    cases c2 : edB es p2 with
    | false => exact .inr ⟨(by decide : 3 < 4), ns, es, f, b, p1, p2, p2, hg, ⟨o1, o2⟩, .inr ⟨c1, .inl c2, rfl⟩, rfl, p2, rfl, h _ (.inr (.inl ⟨c1, c2, rfl⟩))⟩
    | true =>
      obtain ⟨e1, m1, rfl⟩ := edB_eq c1
      obtain ⟨e2, m2, rfl⟩ := edB_eq c2
      have hh := fun r q => h r (.inr (.inr ⟨e1, m1, e2, m2, rfl, rfl, q⟩))
      by_cases c : e1 = e2
      · subst c
        exact .inr ⟨(by decide : 3 < 4), ns, es, f, b, _, _, _, hg, ⟨o1, o2⟩, .inr ⟨c1, .inr rfl, rfl⟩, rfl, _, rfl, hh _ (by rw [if_pos rfl]; rfl)⟩
      · refine .inl ⟨ns, es, f, b, e1, e2, hg, nr, m1, m2, c, rfl, ?_⟩
        exact hh _ (by rw [if_neg c])
def Dat (p : PV) : Prop := PV.isD p = true ∧ (PV.toD p).canLay0 = true ∧ (PV.toD p).depth ≤ 60
theorem ok_str {x : Str} (h : encS.ok x = true) : okI (.str x) := ⟨.inl trivial, fun y e => by cases e; exact h⟩
theorem bad_flat {es : List Ed2} {p : PV} (h : okA p) (n : ∀ xs, p ≠ .tup xs) (d : Dat p) : BadV es p := ⟨⟨h, fun xs e => absurd e (n xs)⟩, by
  unfold edB
  split
  · exact absurd rfl (n _)
  · rfl, .inr d⟩
theorem dat_tup {xs : List Str} (h : encS.oks xs = true) (l : xs.length ≤ 8) : Dat (.tup (xs.map .str)) := by
  have q := encS.shpT h
  refine ⟨q.1, SeqAt.canLay_of_shaped q.2, ?_⟩
  rw [PV.toD, toDs_map, PyData.depth]
  have : ∀ ys : List Str, PyData.depthAll ((ys.map PV.str).map PV.toD) ≤ 5 := fun ys => by
    induction ys with
    | nil => simp [PyData.depthAll]
    | cons y ys ih => simp only [List.map_cons, PyData.depthAll, PV.toD, PyData.depth]; omega
  have := this xs
  have e : encS.f = PV.str := rfl
  omega
theorem dat_lst {xs : List Str} (h : encS.oks xs = true) (l : xs.length ≤ 8) : Dat (.lst (xs.map .str)) := by
  have q := encS.shpL h
  refine ⟨q.1, SeqAt.canLay_of_shaped q.2, ?_⟩
  rw [PV.toD, toDs_map, PyData.depth]
  have : ∀ ys : List Str, PyData.depthAll ((ys.map PV.str).map PV.toD) ≤ 5 := fun ys => by
    induction ys with
    | nil => simp [PyData.depthAll]
    | cons y ys ih => simp only [List.map_cons, PyData.depthAll, PV.toD, PyData.depth]; omega
  have := this xs
  omega
theorem dat_str {x : Str} (h : encS.ok x = true) : Dat (.str x) := by
  have q := encS.shp h
  exact ⟨q.1, SeqAt.canLay_of_shaped q.2, by show (PV.toD (.str x)).depth ≤ 60; simp [PV.toD, PyData.depth]⟩
theorem bad_tup {es : List Ed2} {xs : List Str} (h : encS.oks xs = true) (l : xs.length ≤ 8) (n : edB es (.tup (xs.map .str)) = false) : BadV es (.tup (xs.map .str)) :=
  ⟨⟨.inl trivial, fun ys e => by
    cases e
    refine ⟨by rw [List.length_map]; unfold SZ; omega, fun y hy => ?_⟩
    obtain ⟨x, hx, rfl⟩ := List.mem_map.mp hy
    exact ok_str (List.all_eq_true.mp h x hx)⟩, n, .inr (dat_tup h l)⟩
theorem at_last2 {α : Type} (f : α → PV) (xs : List α) (h : xs ≠ []) : atI (xs.map f) (-1) = some (f (xs.getLast h)) := by
  have l := List.length_pos_iff.mpr h
  have e : ixN (xs.map f).length (-1) = some (xs.length - 1) := by
    rw [List.length_map]
    unfold ixN
    rw [if_neg (by decide), if_pos (by omega)]
    congr 1
    omega
  unfold atI
  rw [e]
  show (xs.map f)[xs.length - 1]? = _
  rw [List.getElem?_map, List.getLast_eq_getElem, List.getElem?_eq_getElem (by omega)]
  rfl
theorem hq__law_bad_edge (C : Addr) : ∀ ss Q, g__law_bad_edge C ss Q → q__law_bad_edge C (bodyEnds 3 Q) (startE 7 ss) := by
  rintro _ Q ⟨s, ns, es, ⟨hg, h8⟩, rfl, h⟩
  have ln : (ns.map PV.str).length = ns.length := List.length_map ..
  have n8 := hg.n8
  have n1 := hg.n1
  conv => whnf
  refine ⟨by first | exact Nat.le_of_ble_eq_true rfl | trivial, ?_⟩
  conv => whnf
  rw [show cutP (ns.map PV.str) (some 1) none = (ns.drop 1).map PV.str from cut_drop' PV.str ns 1]
  conv => whnf
  rw [show coupled (ns.map PV.str) ((ns.drop 1).map PV.str) = (ns.zip (ns.drop 1)).map pE from by
    unfold coupled
    rw [List.zipWith_map]
    show _ = (List.zipWith Prod.mk _ _).map _
    rw [List.map_zipWith]; rfl]
  refine ⟨by first | exact Nat.le_of_ble_eq_true rfl | trivial, ?_⟩
  conv => whnf
  generalize hz : ns.zip (ns.drop 1) = zs
  have zin : ∀ e ∈ zs, e.1 ∈ ns ∧ e.2 ∈ ns := fun e he => by
    rw [← hz] at he
    exact ⟨(List.of_mem_zip he).1, List.mem_of_mem_drop (List.of_mem_zip he).2⟩
  have zok : ∀ e ∈ zs, encE.ok e = true := fun e he => Bool.and_eq_true_iff.mpr ⟨hg.toVsOk.ok (zin e he).1, hg.toVsOk.ok (zin e he).2⟩
  refine runC_sel pE (fun e => !decide (e ∈ es)) pE zs (fun e he R R0 h1 h2 => ?_) ?_
  · have ok := zok e he
    have esk := hg.oks
    conv => whnf
    repeat (first | (refine And.intro (by first | exact rfl | exact True.intro | exact Nat.le_of_ble_eq_true rfl | exact nd1 _) ?_; conv => whnf) | (refine free_go (by assumption) ?_; conv => whnf))
    refine ⟨⟨shpE ok, shpLs esk⟩, ?_⟩
    rw [show hasP (List.map pE es) (PV.tup [PV.str e.fst, PV.str e.snd]) = decide (e ∈ es) from hasE es e]
    cases c : decide (e ∈ es) with
    | true =>
      rw [c] at h2
      exact h2 rfl
    | false =>
      rw [c] at h1
      conv => whnf
      repeat (first | (refine And.intro (by first | exact rfl | exact True.intro | exact Nat.le_of_ble_eq_true rfl | exact nd1 _) ?_; conv => whnf) | (refine free_go (by assumption) ?_; conv => whnf))
      exact h1 rfl
  generalize hm : zs.filter (fun e => !decide (e ∈ es)) = ms
  have mp : ∀ e ∈ ms, e.1 ∈ ns ∧ e.2 ∈ ns ∧ e ∉ es := fun e he => by
    rw [← hm, List.mem_filter] at he
    exact ⟨(zin e he.1).1, (zin e he.1).2, by simpa using he.2⟩
  have lms : ms.length ≤ 8 := by
    have a1 : ms.length ≤ zs.length := by rw [← hm]; exact List.length_filter_le _ _
    have a2 : zs.length ≤ ns.length := by rw [← hz, List.length_zip]; omega
    omega
  clear zin zok hz hm zs
  obtain ⟨n0, h0, m0⟩ : ∃ n0, atI (ns.map PV.str) 0 = some (.str n0) ∧ n0 ∈ ns := ⟨ns[0], (at_nat (xs := ns.map .str) (n := 0) (by omega)).trans (by rw [List.getElem_map]), List.getElem_mem _⟩
  obtain ⟨nl, hl, ml⟩ : ∃ nl, atI (ns.map PV.str) (-1) = some (.str nl) ∧ nl ∈ ns := ⟨ns.getLast (by intro z; rw [z] at n1; simp at n1), at_last2 PV.str ns _, List.getLast_mem _⟩
  conv => whnf
  repeat (first | (refine And.intro (by first | exact rfl | exact True.intro | exact Nat.le_of_ble_eq_true rfl | exact nd1 _) ?_; conv => whnf) | (refine free_go (by assumption) ?_; conv => whnf))
  try simp only [wipeE, backE, stayV, startE, List.set_cons_zero, List.set_cons_succ, List.getElem?_cons_zero, List.getElem?_cons_succ, putB, putC, Sl.put, List.cons_append, List.nil_append, List.length_cons, List.length_nil, Nat.reduceAdd, Nat.reduceSub, List.replicate_succ, List.replicate_zero]
  rw [h0]
  conv => whnf
  repeat (first | (refine And.intro (by first | exact rfl | exact True.intro | exact Nat.le_of_ble_eq_true rfl | exact nd1 _) ?_; conv => whnf) | (refine free_go (by assumption) ?_; conv => whnf))
  try simp only [wipeE, backE, stayV, startE, List.set_cons_zero, List.set_cons_succ, List.getElem?_cons_zero, List.getElem?_cons_succ, putB, putC, Sl.put, List.cons_append, List.nil_append, List.length_cons, List.length_nil, Nat.reduceAdd, Nat.reduceSub, List.replicate_succ, List.replicate_zero]
  rw [h0]
  conv => whnf
  repeat (first | (refine And.intro (by first | exact rfl | exact True.intro | exact Nat.le_of_ble_eq_true rfl | exact nd1 _) ?_; conv => whnf) | (refine free_go (by assumption) ?_; conv => whnf))
  try simp only [wipeE, backE, stayV, startE, List.set_cons_zero, List.set_cons_succ, List.getElem?_cons_zero, List.getElem?_cons_succ, putB, putC, Sl.put, List.cons_append, List.nil_append, List.length_cons, List.length_nil, Nat.reduceAdd, Nat.reduceSub, List.replicate_succ, List.replicate_zero]
  rw [h0]
  conv => whnf
  repeat (first | (refine And.intro (by first | exact rfl | exact True.intro | exact Nat.le_of_ble_eq_true rfl | exact nd1 _) ?_; conv => whnf) | (refine free_go (by assumption) ?_; conv => whnf))
  try simp only [wipeE, backE, stayV, startE, List.set_cons_zero, List.set_cons_succ, List.getElem?_cons_zero, List.getElem?_cons_succ, putB, putC, Sl.put, List.cons_append, List.nil_append, List.length_cons, List.length_nil, Nat.reduceAdd, Nat.reduceSub, List.replicate_succ, List.replicate_zero]
  rw [hl]
  conv => whnf
  repeat (first | (refine And.intro (by first | exact rfl | exact True.intro | exact Nat.le_of_ble_eq_true rfl | exact nd1 _) ?_; conv => whnf) | (refine free_go (by assumption) ?_; conv => whnf))
  try simp only [wipeE, backE, stayV, startE, List.set_cons_zero, List.set_cons_succ, List.getElem?_cons_zero, List.getElem?_cons_succ, putB, putC, Sl.put, List.cons_append, List.nil_append, List.length_cons, List.length_nil, Nat.reduceAdd, Nat.reduceSub, List.replicate_succ, List.replicate_zero]
  rw [show cutP (List.map pE es) none (some 2) = (es.take 2).map pE from cut_take pE es 2]
  have okn : ∀ x ∈ ns, encS.ok x = true := fun x hx => hg.toVsOk.ok hx
  have oks1 : ∀ x, encS.ok x = true → encS.oks [x] = true := fun x h => by simp [Enc.oks, h]
  have oks2 : ∀ x y, encS.ok x = true → encS.ok y = true → encS.oks [x, y] = true := fun x y h h' => by simp [Enc.oks, h, h']
  have oks3 : ∀ x y z, encS.ok x = true → encS.ok y = true → encS.ok z = true → encS.oks [x, y, z] = true := fun x y z h h' h'' => by simp [Enc.oks, h, h', h'']
  have noEq : ∀ x : Str, edB es (.tup [.str x, .str x]) = false := fun x => decide_eq_false fun z => strLt_ne (hg.ed _ z).lt rfl
  have base : ∀ p ∈ [PV.non, PV.int 5, PV.str (Str.ofString "ab"), PV.tup [], PV.lst [], PV.dic [], PV.tup [PV.str (Str.ofString "a"), PV.str (Str.ofString "a")], PV.tup [PV.str (Str.ofString "zz"), PV.str (Str.ofString "zzz")], PV.tup [PV.str n0], PV.str n0, PV.tup [PV.dic [], PV.lst []], PV.lst [PV.str n0, PV.str nl]], BadV es p := by
    intro p hp
    simp only [List.mem_cons, List.not_mem_nil, or_false] at hp
    rcases hp with rfl | rfl | rfl | rfl | rfl | rfl | rfl | rfl | rfl | rfl | rfl | rfl
    · exact bad_flat (.inl trivial) (fun _ z => by cases z) ⟨rfl, rfl, by decide⟩
    · exact bad_flat (.inl trivial) (fun _ z => by cases z) ⟨rfl, rfl, by decide⟩
    · exact bad_flat (.inl trivial) (fun _ z => by cases z) (dat_str (name_ok (by decide +kernel)))
    · exact bad_tup (xs := []) rfl (by decide) rfl
    · exact bad_flat (.inl trivial) (fun _ z => by cases z) (dat_lst (xs := []) rfl (by decide))
    · exact ⟨⟨.inr ⟨_, rfl⟩, fun _ z => by cases z⟩, rfl, .inl (.inl rfl)⟩
    · exact bad_tup (xs := [Str.ofString "a", Str.ofString "a"]) (oks2 _ _ (name_ok (by decide +kernel)) (name_ok (by decide +kernel))) (by decide) (noEq _)
    · refine bad_tup (xs := [Str.ofString "zz", Str.ofString "zzz"]) (oks2 _ _ (name_ok (by decide +kernel)) (name_ok (by decide +kernel))) (by decide) (decide_eq_false fun z => ?_)
      have q := h8 _ (hg.ed _ z).l
      exact absurd q (by decide)
    · exact bad_tup (xs := [n0]) (oks1 _ (okn _ m0)) (by simp) rfl
    · exact bad_flat (.inl trivial) (fun _ z => by cases z) (dat_str (okn _ m0))
    · exact ⟨⟨.inl trivial, fun ys e => by
        cases e
        refine ⟨by unfold SZ; simp, fun y hy => ?_⟩
        simp only [List.mem_cons, List.not_mem_nil, or_false] at hy
        rcases hy with rfl | rfl
        · exact ⟨.inr ⟨_, rfl⟩, fun _ z => by cases z⟩
        · exact ⟨.inl trivial, fun _ z => by cases z⟩⟩, rfl, .inl (.inr rfl)⟩
    · exact bad_flat (.inl trivial) (fun _ z => by cases z) (dat_lst (xs := [n0, nl]) (oks2 _ _ (okn _ m0) (okn _ ml)) (by simp))
  have msB : ∀ p ∈ ms.map pE, BadV es p := fun p hp => by
    obtain ⟨e, he, rfl⟩ := List.mem_map.mp hp
    obtain ⟨a, b, c⟩ := mp e he
    exact bad_tup (xs := [e.1, e.2]) (oks2 _ _ (okn _ a) (okn _ b)) (by simp) (decide_eq_false c)
  generalize hL : ([PV.non, PV.int 5, PV.str (Str.ofString "ab"), PV.tup [], PV.lst [], PV.dic [], PV.tup [PV.str (Str.ofString "a"), PV.str (Str.ofString "a")], PV.tup [PV.str (Str.ofString "zz"), PV.str (Str.ofString "zzz")], PV.tup [PV.str n0], PV.str n0, PV.tup [PV.dic [], PV.lst []], PV.lst [PV.str n0, PV.str nl]] : List PV) = L at base ⊢
  have lL : L.length = 12 := by rw [← hL]; rfl
  clear hL h0 hl
  generalize hM : ms.map pE = Ms at msB ⊢
  have lM : Ms.length ≤ 64 := by rw [← hM, List.length_map]; omega
  clear hM mp lms ms
  refine runF_rec pE (fun todo e => ∃ (L : List PV) (s3 s4 : Sl), e = [.io (srcP s), .val (.lst (ns.map .str)), .val (.lst (es.map pE)), s3, s4, .own (.lst Ms), .own (.lst L)] ∧ (∀ p ∈ L, BadV es p) ∧ 12 ≤ L.length ∧ L.length + 4 * todo.length ≤ 24 ∧ slB s3 = true ∧ slB s4 = true ∧ ∀ e ∈ todo, e ∈ es) _ _ ⟨L, .no, .no, rfl, base, by omega, by rw [lL, List.length_take]; omega, rfl, rfl, fun e he => List.mem_of_mem_take he⟩ ?_ ?_
  · rintro x todo _ R ⟨L, s3, s4, rfl, hL, l12, l24, b3, b4, sub⟩ hR
    have hx := sub x List.mem_cons_self
    have ed := hg.ed x hx
    have k1 := okn _ ed.l
    have k2 := okn _ ed.r
    rw [List.length_cons] at l24
    conv => whnf
    repeat (first | (refine And.intro (by first | exact rfl | exact True.intro | exact Nat.le_of_ble_eq_true rfl | exact nd1 _) ?_; conv => whnf) | (refine free_go (by assumption) ?_; conv => whnf))
    try simp only [wipeE, backE, stayV, startE, List.set_cons_zero, List.set_cons_succ, List.getElem?_cons_zero, List.getElem?_cons_succ, putB, putC, Sl.put, List.cons_append, List.nil_append, List.length_cons, List.length_nil, Nat.reduceAdd, Nat.reduceSub, List.replicate_succ, List.replicate_zero]
    refine ⟨by unfold SZ; omega, ?_⟩
    conv => whnf
    repeat (first | (refine And.intro (by first | exact rfl | exact True.intro | exact Nat.le_of_ble_eq_true rfl | exact nd1 _) ?_; conv => whnf) | (refine free_go (by assumption) ?_; conv => whnf))
    refine hR _ ⟨_, _, _, rfl, fun p hp => ?_, by rw [List.length_append]; omega, by rw [List.length_append]; show L.length + 4 + 4 * todo.length ≤ 24; omega, rfl, rfl, fun e he => sub e (List.mem_cons_of_mem _ he)⟩
    rcases List.mem_append.mp hp with hp | hp
    · exact hL p hp
    · simp only [List.mem_cons, List.not_mem_nil, or_false] at hp
      rcases hp with rfl | rfl | rfl | rfl
      · refine bad_tup (xs := [x.2, x.1]) (oks2 _ _ k2 k1) (by simp) (decide_eq_false fun z => ?_)
        have no : strLt x.2 x.1 = false := encS.asymm ed.lt
        have := (hg.ed _ z).lt
        rw [no] at this; cases this
      · exact bad_flat (.inl trivial) (fun _ z => by cases z) (dat_lst (xs := [x.1, x.2]) (oks2 _ _ k1 k2) (by simp))
      · exact bad_tup (xs := [x.1, x.2, x.1]) (oks3 _ _ _ k1 k2 k1) (by simp) rfl
      · exact bad_tup (xs := [x.1, x.1]) (oks2 _ _ k1 k1) (by simp) (noEq _)
  · rintro _ ⟨L, s3, s4, rfl, hL, l12, l24, b3, b4, sub⟩
    conv => whnf
    repeat (first | (refine And.intro (by first | exact rfl | exact True.intro | exact Nat.le_of_ble_eq_true rfl | exact nd1 _) ?_; conv => whnf) | (refine free_go (by assumption) ?_; conv => whnf))
    try simp only [wipeE, backE, stayV, startE, List.set_cons_zero, List.set_cons_succ, List.getElem?_cons_zero, List.getElem?_cons_succ, putB, putC, Sl.put, List.cons_append, List.nil_append, List.length_cons, List.length_nil, Nat.reduceAdd, Nat.reduceSub, List.replicate_succ, List.replicate_zero]
    refine ⟨by unfold SZ; omega, ?_⟩
    conv => whnf
    repeat (first | (refine And.intro (by first | exact rfl | exact True.intro | exact Nat.le_of_ble_eq_true rfl | exact nd1 _) ?_; conv => whnf) | (refine free_go (by assumption) ?_; conv => whnf))
    refine ⟨s, L ++ Ms, ⟨fun z => by have := congrArg List.length z; rw [List.length_append, List.length_nil] at this; omega, by rw [List.length_append]; omega⟩, rfl, fun p s' hp => ?_⟩
    conv => whnf
    exact h p s' ((List.mem_append.mp hp).elim (hL p) (msB p))
mutual
theorem toD_plain : ∀ p : PV, (PV.toD p).plain = true
  | .non => rfl
  | .bl _ => rfl
  | .int _ => rfl
  | .str _ => rfl
  | .lst xs => by rw [PV.toD]; exact toDs_plain xs
  | .tup xs => by rw [PV.toD]; exact toDs_plain xs
  | .dic _ => rfl
  | .set _ => rfl
  | .ins _ _ _ => rfl
  | .ty _ => rfl
  | .cls _ => rfl
  | .scr _ => rfl
theorem toDs_plain : ∀ xs : List PV, PyData.plainAll (PV.toDs xs) = true
  | [] => rfl
  | x :: xs => by rw [PV.toDs, PyData.plainAll, toD_plain x, toDs_plain xs]; rfl
end
theorem dat_no {p : PV} (d : Dat p) : Shp (noEd p) := by
  obtain ⟨h1, h2, h3⟩ := d
  have s : (PV.toD (.str (Str.ofString "no edge"))).canLay0 = true := by
    have : encS.ok (Str.ofString "no edge") = true := by decide +kernel
    exact SeqAt.canLay_of_shaped (encS.shp this).2
  refine ⟨by show PV.isD (.tup [.str "no edge", p]) = true; rw [PV.isD, PV.isDs, PV.isDs, PV.isDs, h1]; rfl, ?_⟩
  unfold SeqAt.shaped
  show (PyData.canLay0 (PV.toD (.tup [.str "no edge", p])) && decide ((PV.toD (.tup [.str "no edge", p])).depth ≤ 64)) = true
  rw [PV.toD, PV.toDs, PV.toDs, PV.toDs, PyData.canLay0, PyData.canLayAll0, PyData.canLayAll0, PyData.canLayAll0, h2, PyData.depth, PyData.depthAll, PyData.depthAll, PyData.depthAll]
  rw [show (PV.toD (.str (Str.ofString "no edge"))).canLay0 = true from s]
  have : (PV.toD (.str (Str.ofString "no edge"))).depth ≤ 60 := by simp [PV.toD, PyData.depth]
  simp only [Bool.true_and, decide_eq_true_eq]
  omega
theorem neB_same {p : PV} (h : oddV p ∨ Dat p) {k : Bool → Prop} (q : k false) : gNeB (noEd p) (.tup [.str "no edge", p]) k := by
  rcases h with h | h
  · exact .odd p _ rfl rfl h q
  · refine .dat ?_
    have s := dat_no h
    refine ⟨s, s, ?_⟩
    show k !(PyData.eqv (PV.toD (noEd p)) (PV.toD (noEd p)))
    rw [PySem.SeqAt.eqv_refl_plain _ (toD_plain _)]
    exact q
theorem neB_d {p q : PV} {k : Bool → Prop} (h : gNe p q k) : gNeB p q k := .dat h
theorem said1 {es : List Ed2} {p1 p2 r : PV} (h : Said es p1 p2 r) (n : edB es p1 = false) : r = noEd p1 := by
  rcases h with ⟨_, h⟩ | ⟨h, _⟩ | ⟨e1, m1, e2, m2, rfl, rfl, h⟩
  · exact h
  · rw [n] at h; cases h
  · rw [show edB es (pE e1) = true from decide_eq_true m1] at n; cases n
theorem said2 {es : List Ed2} {p2 r : PV} {e1 : Ed2} (h : Said es (pE e1) p2 r) (m : e1 ∈ es) (n : edB es p2 = false) : r = noEd p2 := by
  rcases h with ⟨h, _⟩ | ⟨_, _, h⟩ | ⟨_, m1, e2, m2, _, rfl, h⟩
  · rw [show edB es (pE e1) = true from decide_eq_true m] at h; cases h
  · exact h
  · rw [show edB es (pE e2) = true from decide_eq_true m2] at n; cases n
theorem said3 {es : List Ed2} {r : PV} {e1 e2 : Ed2} (h : Said es (pE e1) (pE e2) r) (m : e1 ∈ es) (m' : e2 ∈ es) : r = if e1 = e2 then noEd (pE e2) else .str "counted" := by
  rcases h with ⟨h, _⟩ | ⟨_, h, _⟩ | ⟨a, m1, b, m2, h1, h2, h⟩
  · rw [show edB es (pE e1) = true from decide_eq_true m] at h; cases h
  · rw [show edB es (pE e2) = true from decide_eq_true m'] at h; cases h
  · have q1 := encE.inj (show encE.f e1 = encE.f a from h1)
    have q2 := encE.inj (show encE.f e2 = encE.f b from h2)
    subst q1 q2
    exact h
theorem okJ_pE {e : Ed2} (h : encE.ok e = true) : okJ (pE e) := ⟨.inl trivial, fun ys z => by
  cases z
  refine ⟨by unfold SZ; simp, fun y hy => ?_⟩
  simp only [List.mem_cons, List.not_mem_nil, or_false] at hy
  rcases hy with rfl | rfl
  · exact ok_str (okE h).1
  · exact ok_str (okE h).2⟩
theorem dat_pE {e : Ed2} (h : encE.ok e = true) : Dat (pE e) := dat_tup (xs := [e.1, e.2]) (by simp [Enc.oks, (okE h).1, (okE h).2]) (by simp)
theorem neB_cnt {x : Str} {k : Bool → Prop} (q : k false) : gNeB (.str x) (.str x) k := neB_d (by
  show k (!decide (x = x))
  rw [decide_eq_true rfl]; exact q)
end CP
namespace CP
open PySem PySem.Spec PyProof.Rows L2
theorem hq_law_k29 (C Cd : Addr) : ∀ ss Q, g_law C ss Q → q_law_k29 C Cd (bodyEnds 1 Q) (startE 16 ss) := by
  rintro _ Q ⟨xs, x63, rfl, h⟩
  conv => whnf
  refine ⟨xs, 0, rfl, fun c => ?_⟩
  conv => whnf
  refine ⟨Nat.le_of_ble_eq_true rfl, ?_⟩
  conv => whnf
  refine ⟨by first | exact Nat.le_of_ble_eq_true rfl | trivial, ?_⟩
  conv => whnf
  obtain ⟨ys, ey, ly⟩ := cut_some PV.int xs (some 1) (some 6)
  conv => whnf
  rw [ey]
  conv => whnf
  refine ⟨by rw [List.length_map, List.length_singleton]; unfold SZ; omega, ?_⟩
  conv => whnf
  rw [show [PV.int c] ++ ys.map PV.int = (c :: ys).map PV.int from rfl]
  generalize c :: ys = zs
  refine ⟨rfl, ?_⟩
  conv => whnf
  refine runF_rec PV.int (fun _ e => ∃ s1 s2 s3 s4 s7 s9 s10 s11 s12 s13 s14 s15, e = [.val (.scr (xs.map .int)), s1, s2, s3, s4, .no, .no, s7, .no, s9, s10, s11, s12, s13, s14, s15] ∧ slB s1 = true ∧ slB s2 = true ∧ slB s3 = true ∧ slB s4 = true ∧ slB s7 = true ∧ slB s9 = true ∧ slB s10 = true ∧ slB s11 = true ∧ slB s12 = true ∧ slB s13 = true ∧ slB s14 = true ∧ slB s15 = true) _ _ ⟨.no, .no, .no, .no, .no, .no, .no, .no, .no, .no, .no, .no, rfl, rfl, rfl, rfl, rfl, rfl, rfl, rfl, rfl, rfl, rfl, rfl, rfl⟩ ?_ ?_
  · rintro x todo _ R ⟨s1, s2, s3, s4, s7, s9, s10, s11, s12, s13, s14, s15, rfl, n1, n2, n3, n4, n7, n9, n10, n11, n12, n13, n14, n15⟩ hR
    conv => whnf
    refine free_go (n1) ?_
    conv => whnf
    conv => whnf
    refine ⟨x, rfl, fun s c1 => ?_⟩
    conv => whnf
    refine free_go (n2) ?_
    conv => whnf
    conv => whnf
    refine ⟨by first | exact Nat.le_of_ble_eq_true rfl | trivial, ?_⟩
    conv => whnf
    refine ⟨nd1 2, ?_⟩
    conv => whnf
    refine ⟨s, 8, ⟨by decide, by decide⟩, rfl, fun ns es s' ⟨hg, l8, h8, l14⟩ => ?_⟩
    conv => whnf
    refine free_go (n3) ?_
    conv => whnf
    conv => whnf
    refine free_go (n4) ?_
    conv => whnf
    try simp only [wipeE, backE, stayV, startE, List.set_cons_zero, List.set_cons_succ, List.getElem?_cons_zero, List.getElem?_cons_succ, putB, putC, Sl.put, List.cons_append, List.nil_append, List.length_cons, List.length_nil, Nat.reduceAdd, Nat.reduceSub, List.replicate_succ, List.replicate_zero]
    have e18 := hg.e18
    have n8' := hg.n8
    have gk := hg.srt
    have cf := gk.toGrIn.carries_few
    have pf := gk.toGrIn.prs_few
    have ln : (ns.map PV.str).length = ns.length := List.length_map ..
    conv => whnf
    clear cf pf
    refine ⟨by first | exact Nat.le_of_ble_eq_true rfl | trivial, ?_⟩
    conv => whnf
    rw [numbered_map]
    refine runC_all (fun x : Str × Nat => .tup [.int (x.2 : Nat), .str x.1]) (fun x => .tup [.str x.1, pT ((x.2 : Nat), (x.2 : Nat) * (x.2 : Nat))]) ns.zipIdx (fun x hx R1 R0 hR1 => ?_) ?_
    · skip
      conv => whnf
      repeat (first | (refine And.intro (by first | exact rfl | exact True.intro | exact Nat.le_of_ble_eq_true rfl | exact nd1 _) ?_; conv => whnf) | (refine free_go (by assumption) ?_; conv => whnf))
      have hk : x.2 < 8 := by
        have := List.snd_lt_of_mem_zipIdx hx
        omega
      refine ⟨.inl ⟨by omega, by omega⟩, ?_⟩
      conv => whnf
      repeat (first | (refine And.intro (by first | exact rfl | exact True.intro | exact Nat.le_of_ble_eq_true rfl | exact nd1 _) ?_; conv => whnf) | (refine free_go (by assumption) ?_; conv => whnf))
      exact hR1
    rw [zip_plc hg.nd (fun v k => PV.tup [PV.str v, pT ((k : Nat), (k : Nat) * (k : Nat))])]
    conv => whnf
    repeat (first | (refine And.intro (by first | exact rfl | exact True.intro | exact Nat.le_of_ble_eq_true rfl | exact nd1 _) ?_; conv => whnf) | (refine free_go (by assumption) ?_; conv => whnf))
    try simp only [wipeE, backE, stayV, startE, List.set_cons_zero, List.set_cons_succ, List.getElem?_cons_zero, List.getElem?_cons_succ, putB, putC, Sl.put, List.cons_append, List.nil_append, List.length_cons, List.length_nil, Nat.reduceAdd, Nat.reduceSub, List.replicate_succ, List.replicate_zero]
    conv => whnf
    repeat (first | (refine And.intro (by first | exact rfl | exact True.intro | exact Nat.le_of_ble_eq_true rfl | exact nd1 _) ?_; conv => whnf) | (refine free_go (by assumption) ?_; conv => whnf))
    rw [show pairsOf (ns.map fun v => PV.tup [PV.str v, pT ((plc ns v : Nat), (plc ns v : Nat) * (plc ns v : Nat))]) = some (ns.map fun v => (PV.str v, pT ((plc ns v : Nat), (plc ns v : Nat) * (plc ns v : Nat)))) from pairsOf_map .str _ ns]
    conv => whnf
    repeat (first | (refine And.intro (by first | exact rfl | exact True.intro | exact Nat.le_of_ble_eq_true rfl | exact nd1 _) ?_; conv => whnf) | (refine free_go (by assumption) ?_; conv => whnf))
    refine ⟨by rw [List.all_map]; exact List.all_eq_true.mpr fun p _ => rfl, ?_⟩
    have crv : Crv ns (fun v => ((plc ns v : Nat) : Int)) := fun v _ w _ lt => by show ((plc ns v : Nat) : Int) < ((plc ns w : Nat) : Int); omega
    have far : ∀ v ∈ ns, ((plc ns v : Nat) : Int).natAbs ≤ 100000000000 := fun v hv => by
      have : plc ns v < ns.length := List.idxOf_lt_length_of_mem hv
      omega
    have gen := crv_gen gk (List.Perm.refl _) crv (.inl rfl) (.inl rfl) (a := 1) (b := 1)
    have near : ∀ v ∈ ns, nearB ((fun v => onC 1 1 ((plc ns v : Nat) : Int)) v) = true := fun v hv => crv_near far (.inl rfl) (.inl rfl) hv
    rw [show pmerge (ns.map fun v => (PV.str v, pT ((plc ns v : Nat), (plc ns v : Nat) * (plc ns v : Nat)))) = ptsD ns (fun v => onC 1 1 ((plc ns v : Nat) : Int)) from (pm_nd encS _ hg.nd).trans (by
      unfold ptsD onC
      refine List.map_congr_left fun v _ => ?_
      show (PV.str v, pT (((plc ns v : Nat) : Int), ((plc ns v : Nat) : Int) * ((plc ns v : Nat) : Int))) = (PV.str v, pT (1 * ((plc ns v : Nat) : Int), 1 * (((plc ns v : Nat) : Int) * ((plc ns v : Nat) : Int))))
      rw [Int.one_mul, Int.one_mul])]
    generalize (fun v => onC 1 1 ((plc ns v : Nat) : Int)) = f at gen near ⊢
    clear crv far
    conv => whnf
    repeat (first | (refine And.intro (by first | exact rfl | exact True.intro | exact Nat.le_of_ble_eq_true rfl | exact nd1 _) ?_; conv => whnf) | (refine free_go (by assumption) ?_; conv => whnf))
    refine ⟨_, _, ns, es, hg, .inl rfl, .inl rfl, rfl, by trivial, ?_⟩
    conv => whnf
    repeat (first | (refine And.intro (by first | exact rfl | exact True.intro | exact Nat.le_of_ble_eq_true rfl | exact nd1 _) ?_; conv => whnf) | (refine free_go (by assumption) ?_; conv => whnf))
    try simp only [wipeE, backE, stayV, startE, List.set_cons_zero, List.set_cons_succ, List.getElem?_cons_zero, List.getElem?_cons_succ, putB, putC, Sl.put, List.cons_append, List.nil_append, List.length_cons, List.length_nil, Nat.reduceAdd, Nat.reduceSub, List.replicate_succ, List.replicate_zero]
    refine runC_all pE (fun e => .tup [pE e, .lst []]) es (fun e he R1 R0 hR1 => ?_) ?_
    · skip
      conv => whnf
      repeat (first | (refine And.intro (by first | exact rfl | exact True.intro | exact Nat.le_of_ble_eq_true rfl | exact nd1 _) ?_; conv => whnf) | (refine free_go (by assumption) ?_; conv => whnf))
      exact hR1
    try simp only [wipeE, backE, stayV, startE, List.set_cons_zero, List.set_cons_succ, List.getElem?_cons_zero, List.getElem?_cons_succ, putB, putC, Sl.put, List.cons_append, List.nil_append, List.length_cons, List.length_nil, Nat.reduceAdd, Nat.reduceSub, List.replicate_succ, List.replicate_zero]
    conv => whnf
    repeat (first | (refine And.intro (by first | exact rfl | exact True.intro | exact Nat.le_of_ble_eq_true rfl | exact nd1 _) ?_; conv => whnf) | (refine free_go (by assumption) ?_; conv => whnf))
    rw [show pairsOf (es.map fun e => PV.tup [pE e, PV.lst []]) = some (es.map fun e => (pE e, PV.lst [])) from pairsOf_map pE _ es]
    conv => whnf
    repeat (first | (refine And.intro (by first | exact rfl | exact True.intro | exact Nat.le_of_ble_eq_true rfl | exact nd1 _) ?_; conv => whnf) | (refine free_go (by assumption) ?_; conv => whnf))
    refine ⟨by rw [List.all_map]; exact List.all_eq_true.mpr fun p _ => rfl, ?_⟩
    rw [show pmerge (es.map fun e => (pE e, PV.lst [])) = linD es fun _ => .lst [] from pm_nd encE _ hg.end_]
    conv => whnf
    repeat (first | (refine And.intro (by first | exact rfl | exact True.intro | exact Nat.le_of_ble_eq_true rfl | exact nd1 _) ?_; conv => whnf) | (refine free_go (by assumption) ?_; conv => whnf))
    have bd : BdOk (encE.srtd es) (fun _ => .lst []) noB := ⟨fun e _ => .inl rfl, fun e _ => Nat.zero_le _, fun e _ p hp => nomatch hp⟩
    have nr : NearOk ns (encE.srtd es) f noB := ⟨fun e _ => Nat.zero_le _, near, fun e _ p hp => nomatch hp⟩
    refine ⟨ns, encE.srtd es, ns, f, es, _, noB, gk, List.Perm.refl _, (encE.srtd_perm es).symm, near, bd, gen, rfl, by trivial, ?_⟩
    conv => whnf
    repeat (first | (refine And.intro (by first | exact rfl | exact True.intro | exact Nat.le_of_ble_eq_true rfl | exact nd1 _) ?_; conv => whnf) | (refine free_go (by assumption) ?_; conv => whnf))
    try simp only [wipeE, backE, stayV, startE, List.set_cons_zero, List.set_cons_succ, List.getElem?_cons_zero, List.getElem?_cons_succ, putB, putC, Sl.put, List.cons_append, List.nil_append, List.length_cons, List.length_nil, Nat.reduceAdd, Nat.reduceSub, List.replicate_succ, List.replicate_zero]
    conv => whnf
    repeat (first | (refine And.intro (by first | exact rfl | exact True.intro | exact Nat.le_of_ble_eq_true rfl | exact nd1 _) ?_; conv => whnf) | (refine free_go (by assumption) ?_; conv => whnf))
    refine ⟨by decide, ?_⟩
    rw [show count 0 (Int.toNat 8) = (List.range 8).map (fun j : Nat => PV.int (j : Int)) from rfl]
    generalize List.range 8 = o8
    try simp only [wipeE, backE, stayV, startE, List.set_cons_zero, List.set_cons_succ, List.getElem?_cons_zero, List.getElem?_cons_succ, putB, putC, Sl.put, List.cons_append, List.nil_append, List.length_cons, List.length_nil, Nat.reduceAdd, Nat.reduceSub, List.replicate_succ, List.replicate_zero]
    have edp : ∀ {p : PV}, edB es p = false → edB (encE.srtd es) p = false := fun {p} h => by
      cases c : edB (encE.srtd es) p with
      | false => rfl
      | true =>
        obtain ⟨e, he, rfl⟩ := edB_eq c
        rw [show edB es (pE e) = true from decide_eq_true ((encE.srtd_perm es).mem_iff.mp he)] at h
        cases h
    refine runF_rec (fun j : Nat => PV.int (j : Int)) (fun todo e => ∃ (sz : Src) (s9 s10 s11 s12 s13 s14 s15 : Sl), e = [.val (.scr (xs.map .int)), .val (.int x), .own (srcP sz), .val (.lst (ns.map .str)), .val (.lst (es.map pE)), .no, .no, .val (.dic (ptsD ns f)), .no, s9, s10, s11, s12, s13, s14, s15] ∧ (s9 = .own (pDr C Cd ns (encE.srtd es) f noB) ∨ s9 = .val (pDr C Cd ns (encE.srtd es) f noB)) ∧ slB s10 = true ∧ slB s11 = true ∧ slB s12 = true ∧ slB s13 = true ∧ slB s14 = true ∧ slB s15 = true) _ _ ⟨s', _, _, _, _, _, _, _, rfl, .inl rfl, n10, n11, n12, n13, n14, n15⟩ ?_ ?_
    · clear n10 n11 n12 n13 n14 n15 s10 s11 s12 s13 s14 s15
      rintro j todo _ R2 ⟨sz, s9, s10, s11, s12, s13, s14, s15, rfl, o9, n10, n11, n12, n13, n14, n15⟩ hR2
      conv => whnf
      repeat (first | (refine And.intro (by first | exact rfl | exact True.intro | exact Nat.le_of_ble_eq_true rfl | exact nd1 _) ?_; conv => whnf) | (refine free_go (by assumption) ?_; conv => whnf))
      refine ⟨sz, ns, es, ⟨hg, h8⟩, rfl, fun p1 s1' b1 => ?_⟩
      conv => whnf
      repeat (first | (refine And.intro (by first | exact rfl | exact True.intro | exact Nat.le_of_ble_eq_true rfl | exact nd1 _) ?_; conv => whnf) | (refine free_go (by assumption) ?_; conv => whnf))
      refine ⟨s1', ns, es, ⟨hg, h8⟩, rfl, fun p2 s2' b2 => ?_⟩
      rcases o9 with rfl | rfl
      all_goals
        try simp only [wipeE, backE, stayV, startE, List.set_cons_zero, List.set_cons_succ, List.getElem?_cons_zero, List.getElem?_cons_succ, putB, putC, Sl.put, List.cons_append, List.nil_append, List.length_cons, List.length_nil, Nat.reduceAdd, Nat.reduceSub, List.replicate_succ, List.replicate_zero]
        conv => whnf
        repeat (first | (refine And.intro (by first | exact rfl | exact True.intro | exact Nat.le_of_ble_eq_true rfl | exact nd1 _) ?_; conv => whnf) | (refine free_go (by assumption) ?_; conv => whnf))
        refine ⟨ns, encE.srtd es, f, noB, p1, p2, gk, nr, ⟨b1.ok, b2.ok⟩, rfl, fun r hr => ?_⟩
        obtain rfl := said1 hr (edp b1.no)
        conv => whnf
        repeat (first | (refine And.intro (by first | exact rfl | exact True.intro | exact Nat.le_of_ble_eq_true rfl | exact nd1 _) ?_; conv => whnf) | (refine free_go (by assumption) ?_; conv => whnf))
        refine neB_same b1.sh ?_
        conv => whnf
        repeat (first | (refine And.intro (by first | exact rfl | exact True.intro | exact Nat.le_of_ble_eq_true rfl | exact nd1 _) ?_; conv => whnf) | (refine free_go (by assumption) ?_; conv => whnf))
        refine ⟨shpLs hg.oks, shp_nil, ?_⟩
        try simp only [wipeE, backE, stayV, startE, List.set_cons_zero, List.set_cons_succ, List.getElem?_cons_zero, List.getElem?_cons_succ, putB, putC, Sl.put, List.cons_append, List.nil_append, List.length_cons, List.length_nil, Nat.reduceAdd, Nat.reduceSub, List.replicate_succ, List.replicate_zero]
        rw [show PyData.eqv (PV.toD (PV.lst (List.map pE es))) (PV.toD (PV.lst [])) = decide (List.map pE es = []) from eqv_nil _]
        refine dec_any (fun he => ?_) (fun he => ?_)
        · skip
          conv => whnf
          repeat (first | (refine And.intro (by first | exact rfl | exact True.intro | exact Nat.le_of_ble_eq_true rfl | exact nd1 _) ?_; conv => whnf) | (refine free_go (by assumption) ?_; conv => whnf))
          have he' : es.map pE ≠ [] := by simpa using he
          refine ⟨s2', es.map pE, ⟨he', by rw [List.length_map]; omega⟩, rfl, fun v s3' hv => ?_⟩
          obtain ⟨e1, m1, rfl⟩ := List.mem_map.mp hv
          clear hv
          conv => whnf
          repeat (first | (refine And.intro (by first | exact rfl | exact True.intro | exact Nat.le_of_ble_eq_true rfl | exact nd1 _) ?_; conv => whnf) | (refine free_go (by assumption) ?_; conv => whnf))
          refine ⟨s3', es.map pE, ⟨he', by rw [List.length_map]; omega⟩, rfl, fun v s4' hv => ?_⟩
          obtain ⟨e2, m2, rfl⟩ := List.mem_map.mp hv
          clear hv
          have k1 := hg.okE m1
          have k2 := hg.okE m2
          have m1' := (encE.srtd_perm es).mem_iff.mpr m1
          have m2' := (encE.srtd_perm es).mem_iff.mpr m2
          conv => whnf
          repeat (first | (refine And.intro (by first | exact rfl | exact True.intro | exact Nat.le_of_ble_eq_true rfl | exact nd1 _) ?_; conv => whnf) | (refine free_go (by assumption) ?_; conv => whnf))
          refine ⟨ns, encE.srtd es, f, noB, pE e1, p1, gk, nr, ⟨okJ_pE k1, b1.ok⟩, rfl, fun r hr => ?_⟩
          obtain rfl := said2 hr m1' (edp b1.no)
          conv => whnf
          repeat (first | (refine And.intro (by first | exact rfl | exact True.intro | exact Nat.le_of_ble_eq_true rfl | exact nd1 _) ?_; conv => whnf) | (refine free_go (by assumption) ?_; conv => whnf))
          refine neB_same b1.sh ?_
          conv => whnf
          repeat (first | (refine And.intro (by first | exact rfl | exact True.intro | exact Nat.le_of_ble_eq_true rfl | exact nd1 _) ?_; conv => whnf) | (refine free_go (by assumption) ?_; conv => whnf))
          refine ⟨ns, encE.srtd es, f, noB, p1, pE e1, gk, nr, ⟨b1.ok, okJ_pE k1⟩, rfl, fun r hr => ?_⟩
          obtain rfl := said1 hr (edp b1.no)
          conv => whnf
          repeat (first | (refine And.intro (by first | exact rfl | exact True.intro | exact Nat.le_of_ble_eq_true rfl | exact nd1 _) ?_; conv => whnf) | (refine free_go (by assumption) ?_; conv => whnf))
          refine neB_same b1.sh ?_
          conv => whnf
          repeat (first | (refine And.intro (by first | exact rfl | exact True.intro | exact Nat.le_of_ble_eq_true rfl | exact nd1 _) ?_; conv => whnf) | (refine free_go (by assumption) ?_; conv => whnf))
          refine ⟨shpE k1, shpE k2, ?_⟩
          rw [show PyData.eqv (PV.toD (pE e1)) (PV.toD (pE e2)) = decide (e1 = e2) from encE.eqv _ _]
          refine dec_any (fun ee => ?_) (fun ee => ?_)
          · skip
            conv => whnf
            repeat (first | (refine And.intro (by first | exact rfl | exact True.intro | exact Nat.le_of_ble_eq_true rfl | exact nd1 _) ?_; conv => whnf) | (refine free_go (by assumption) ?_; conv => whnf))
            refine ⟨ns, encE.srtd es, f, noB, pE e1, pE e2, gk, nr, ⟨okJ_pE k1, okJ_pE k2⟩, rfl, fun r hr => ?_⟩
            have hr := said3 hr m1' m2'
            rw [if_pos (show e1 = e2 by simpa using ee)] at hr
            subst hr
            conv => whnf
            repeat (first | (refine And.intro (by first | exact rfl | exact True.intro | exact Nat.le_of_ble_eq_true rfl | exact nd1 _) ?_; conv => whnf) | (refine free_go (by assumption) ?_; conv => whnf))
            refine neB_same (.inr (dat_pE k2)) ?_
            conv => whnf
            repeat (first | (refine And.intro (by first | exact rfl | exact True.intro | exact Nat.le_of_ble_eq_true rfl | exact nd1 _) ?_; conv => whnf) | (refine free_go (by assumption) ?_; conv => whnf))
            exact hR2 _ ⟨_, _, _, _, _, _, _, _, rfl, .inr rfl, rfl, rfl, rfl, rfl, rfl, rfl⟩
          · skip
            conv => whnf
            repeat (first | (refine And.intro (by first | exact rfl | exact True.intro | exact Nat.le_of_ble_eq_true rfl | exact nd1 _) ?_; conv => whnf) | (refine free_go (by assumption) ?_; conv => whnf))
            refine ⟨ns, encE.srtd es, f, noB, pE e1, pE e2, gk, nr, ⟨okJ_pE k1, okJ_pE k2⟩, rfl, fun r hr => ?_⟩
            have hr := said3 hr m1' m2'
            rw [if_neg (show ¬ e1 = e2 by simpa using ee)] at hr
            subst hr
            conv => whnf
            repeat (first | (refine And.intro (by first | exact rfl | exact True.intro | exact Nat.le_of_ble_eq_true rfl | exact nd1 _) ?_; conv => whnf) | (refine free_go (by assumption) ?_; conv => whnf))
            refine neB_cnt ?_
            conv => whnf
            repeat (first | (refine And.intro (by first | exact rfl | exact True.intro | exact Nat.le_of_ble_eq_true rfl | exact nd1 _) ?_; conv => whnf) | (refine free_go (by assumption) ?_; conv => whnf))
            exact hR2 _ ⟨_, _, _, _, _, _, _, _, rfl, .inr rfl, rfl, rfl, rfl, rfl, rfl, rfl⟩
        · skip
          conv => whnf
          repeat (first | (refine And.intro (by first | exact rfl | exact True.intro | exact Nat.le_of_ble_eq_true rfl | exact nd1 _) ?_; conv => whnf) | (refine free_go (by assumption) ?_; conv => whnf))
          exact hR2 _ ⟨_, _, _, _, _, _, _, _, rfl, .inr rfl, rfl, rfl, rfl, n13, n14, n15⟩
    · rintro _ ⟨sz, s9, s10, s11, s12, s13, s14, s15, rfl, o9, n10, n11, n12, n13, n14, n15⟩
      have m9 : slB s9 = true := by rcases o9 with rfl | rfl <;> rfl
      exact hR _ ⟨_, _, _, _, _, _, _, _, _, _, _, _, rfl, rfl, rfl, rfl, rfl, rfl, m9, n10, n11, n12, n13, n14, n15⟩
  · rintro _ ⟨s1, s2, s3, s4, s7, s9, s10, s11, s12, s13, s14, s15, rfl, _⟩
    conv => whnf
    exact h
end CP
namespace CP
open PySem PySem.Spec PyProof.Rows L2
def top (i : Nat) : Stmt := PySem.Challenge.pw_crossparity_k29_invalid_edges_of_drawing.main.body.getD i (.Pass ⟨0, 0, 0, 0⟩)
variable {P : Program} {w : World} {K : PySem.W.Frag} {mg : Str → Option Value} {base : Heap} {C Cd CE : Addr}
abbrev s_init_NoEdge : Stmt := inClass (top 7) 0
theorem sc_init_NoEdge : FnScope ["self", "edge"] ["self", "edge"] (defScope s_init_NoEdge) := ⟨rfl, rfl, rfl, by decide +kernel, rfl, by decide +kernel, by decide +kernel⟩
theorem bd_init_NoEdge : BindsBy "__init__" "NoEdge.__init__" s_init_NoEdge ["self", "edge"] := fun _ _ _ _ _ _ us hl => match us, hl with | [_, _], _ => rfl
theorem init_NoEdge {f : Addr} {fd : FuncData} (F : Fun K "__init__" "NoEdge.__init__" s_init_NoEdge f fd) (T : OexC K CE) (no : PySem.W.findIn K (.ref CE) "edge" = some none) : FnOk P w K mg base CX0 1 f fd ["self", "edge"] (spF CE "edge") := by
  refine F.ok sc_init_NoEdge (fun vs H Q E h => ?_) (fun cdv A outer s H vs Q E hr h => ?_)
  · obtain ⟨a, v, rfl, _⟩ := h; rfl
  · obtain ⟨a, v, rfl, ha, k⟩ := h
    exact ⟨_, pss_one (ps_ost (pv 0) (pv 1)), _, rfl, _, rfl, a, CE, rfl, T, no, .inl ⟨ha, k⟩⟩
abbrev s_offsets : Stmt := top 32
abbrev N_offsets : List Str := ["start", "end", "places", "across", "up", "level", "x", "y"]
theorem sc_offsets : FnScope N_offsets ["start", "end", "places"] (defScope s_offsets) := ⟨rfl, rfl, rfl, by decide +kernel, rfl, by decide +kernel, by decide +kernel⟩
theorem bd_offsets : BindsBy "offsets" "offsets" s_offsets ["start", "end", "places"] := fun _ _ _ _ _ _ us hl => match us, hl with | [_, _, _], _ => rfl
theorem ar_offsets : ∀ ss Q, g_offsets C ss Q → ss.length = 3 := by rintro _ Q ⟨v0, v1, v2, c0, c1, rfl, h⟩; rfl
theorem out_offsets : Out (g_offsets C) := by
  rintro _ Q ⟨v0, v1, v2, c0, c1, rfl, h⟩
  exact ⟨v0, v1, v2, c0, c1, rfl, by first | exact ⟨h, rfl⟩ | exact fun a => ⟨h a, rfl⟩ | exact fun a b => ⟨h a b, rfl⟩ | exact fun a b c => ⟨h a b c, rfl⟩ | exact fun a b c d => ⟨h a b c d, rfl⟩ | exact fun a b c d e => ⟨h a b c d e, rfl⟩ | exact fun a b c d e f => ⟨h a b c d e f, rfl⟩ | exact fun a b c d e f i => ⟨h a b c d e f i, rfl⟩ | exact fun a b c d e f i j => ⟨h a b c d e f i j, rfl⟩ | exact fun a b c d e f i j k => ⟨h a b c d e f i j k, rfl⟩ | exact fun a b c d e f i j k l => ⟨h a b c d e f i j k l, rfl⟩⟩
theorem body_offsets  : BodyOk P w K mg base N_offsets "offsets" s_offsets 0 (q_offsets C) := fun f H0 M0 iol cdv A outer s H E g =>
  (s_cons (s_set (i := 3) g (q_sub (q_ixU g (q_var (pv 1)) q_int) (q_ixU g (q_var (pv 0)) q_int)))
  (s_cons (s_set (i := 4) g (q_sub (q_ixU g (q_var (pv 1)) q_int) (q_ixU g (q_var (pv 0)) q_int)))
  (s_cons (s_set (i := 5) g (q_sub (q_mulW (q_var (pv 3)) (q_ixU g (q_var (pv 0)) q_int)) (q_mulW (q_var (pv 4)) (q_ixU g (q_var (pv 0)) q_int))))
  (s_one (s_ret (q_lc (own := [("x", 6), ("y", 7)]) g (i_any g (q_var (pv 2))) (blkOk_by (own := [("x", 6), ("y", 7)]) (N := N_offsets) (sc := defScope s_offsets) (by decide +kernel)) (fun _ _ _ _ _ _ _ g => (g_tup g (g_cons (g_name (i := 6) g.nd) (g_cons (g_name (i := 7) g.nd) g_nil)))) (fun _ _ _ _ _ _ _ g => t_yes) (fun _ _ _ _ _ _ _ g => (q_sub (q_sub (q_mulW (q_var (pv 3)) (q_var (pv 7))) (q_mulW (q_var (pv 4)) (q_var (pv 6)))) (q_var (pv 5))))))))))
theorem has_offsets (D : DefAt K mg "offsets" s_offsets)  : HasD P w K mg base "offsets" ["start", "end", "places"] 1 (g_offsets C) := def_has D sc_offsets bd_offsets ar_offsets out_offsets (body_offsets ) (hq_offsets C)
abbrev s_others_in_box : Stmt := top 33
abbrev N_others_in_box : List Str := ["start", "end", "places", "left", "right", "low", "high", "x", "y", "boxed", "place"]
theorem sc_others_in_box : FnScope N_others_in_box ["start", "end", "places"] (defScope s_others_in_box) := ⟨rfl, rfl, rfl, by decide +kernel, rfl, by decide +kernel, by decide +kernel⟩
theorem bd_others_in_box : BindsBy "others_in_box" "others_in_box" s_others_in_box ["start", "end", "places"] := fun _ _ _ _ _ _ us hl => match us, hl with | [_, _, _], _ => rfl
theorem ar_others_in_box : ∀ ss Q, g_others_in_box C ss Q → ss.length = 3 := by rintro _ Q ⟨v0, v1, v2, c0, rfl, h⟩; rfl
theorem out_others_in_box : Out (g_others_in_box C) := by
  rintro _ Q ⟨v0, v1, v2, c0, rfl, h⟩
  exact ⟨v0, v1, v2, c0, rfl, by first | exact ⟨h, rfl⟩ | exact fun a => ⟨h a, rfl⟩ | exact fun a b => ⟨h a b, rfl⟩ | exact fun a b c => ⟨h a b c, rfl⟩ | exact fun a b c d => ⟨h a b c d, rfl⟩ | exact fun a b c d e => ⟨h a b c d e, rfl⟩ | exact fun a b c d e f => ⟨h a b c d e f, rfl⟩ | exact fun a b c d e f i => ⟨h a b c d e f i, rfl⟩ | exact fun a b c d e f i j => ⟨h a b c d e f i j, rfl⟩ | exact fun a b c d e f i j k => ⟨h a b c d e f i j k, rfl⟩ | exact fun a b c d e f i j k l => ⟨h a b c d e f i j k l, rfl⟩⟩
theorem body_others_in_box (n_sorted : mg "sorted" = none) : BodyOk P w K mg base N_others_in_box "others_in_box" s_others_in_box 0 (q_others_in_box C) := fun f H0 M0 iol cdv A outer s H E g =>
  (s_cons (s_asg (vs := [3, 4]) (q_sortedU g n_sorted (b_cons (q_lst (a_cons (q_ixU g (q_var (pv 0)) q_int) (a_cons (q_ixU g (q_var (pv 1)) q_int) a_nil))) b_nil)) (g_tup g (g_cons (g_name (i := 3) g.nd) (g_cons (g_name (i := 4) g.nd) g_nil))))
  (s_cons (s_asg (vs := [5, 6]) (q_sortedU g n_sorted (b_cons (q_lst (a_cons (q_ixU g (q_var (pv 0)) q_int) (a_cons (q_ixU g (q_var (pv 1)) q_int) a_nil))) b_nil)) (g_tup g (g_cons (g_name (i := 5) g.nd) (g_cons (g_name (i := 6) g.nd) g_nil))))
  (s_cons (s_setLc (i := 9) (own := [("x", 7), ("y", 8)]) g (sw_true rfl rfl rfl (by decide +kernel)) (i_any g (q_var (pv 2))) (blkOk_by (own := [("x", 7), ("y", 8)]) (N := N_others_in_box) (sc := defScope s_others_in_box) (by decide +kernel)) (fun _ _ _ _ _ _ _ g => (g_tup g (g_cons (g_name (i := 7) g.nd) (g_cons (g_name (i := 8) g.nd) g_nil)))) (fun _ _ _ _ _ _ _ g => (t_one (t_and (t_chain (c_le g) (c_le g) (q_var (pv 3)) (q_var (pv 7)) (q_var (pv 4))) (t_and1 (t_chain (c_le g) (c_le g) (q_var (pv 5)) (q_var (pv 8)) (q_var (pv 6))))).pt)) (fun _ _ _ _ _ _ _ g => (q_tup (a_cons (q_var (pv 7)) (a_cons (q_var (pv 8)) a_nil)))))
  (s_one (s_ret (q_lc (own := [("place", 10)]) g (i_any g (q_var (pv 9))) (blkOk_by (own := [("place", 10)]) (N := N_others_in_box) (sc := defScope s_others_in_box) (by decide +kernel)) (fun _ _ _ _ _ _ _ g => (g_name (i := 10) g.nd)) (fun _ _ _ _ _ _ _ g => (t_one (t_and (t_cmpQ (c_ne g) (q_var (pv 10)) (q_var (pv 0))) (t_and1 (t_cmpQ (c_ne g) (q_var (pv 10)) (q_var (pv 1))))).pt)) (fun _ _ _ _ _ _ _ g => (q_var (pv 10)))))))))
theorem has_others_in_box (D : DefAt K mg "others_in_box" s_others_in_box) (n_sorted : mg "sorted" = none) : HasD P w K mg base "others_in_box" ["start", "end", "places"] 1 (g_others_in_box C) := def_has D sc_others_in_box bd_others_in_box ar_others_in_box out_others_in_box (body_others_in_box n_sorted) (hq_others_in_box C)
abbrev s_path_of : Stmt := top 31
abbrev N_path_of : List Str := ["points", "lines", "edge"]
theorem sc_path_of : FnScope N_path_of ["points", "lines", "edge"] (defScope s_path_of) := ⟨rfl, rfl, rfl, by decide +kernel, rfl, by decide +kernel, by decide +kernel⟩
theorem bd_path_of : BindsBy "path_of" "path_of" s_path_of ["points", "lines", "edge"] := fun _ _ _ _ _ _ us hl => match us, hl with | [_, _, _], _ => rfl
theorem ar_path_of : ∀ ss Q, g_path_of C ss Q → ss.length = 3 := by rintro _ Q ⟨v0, v1, v2, v3, v4, v5, c0, c1, rfl, h⟩; rfl
theorem out_path_of : Out (g_path_of C) := by
  rintro _ Q ⟨v0, v1, v2, v3, v4, v5, c0, c1, rfl, h⟩
  exact ⟨v0, v1, v2, v3, v4, v5, c0, c1, rfl, by first | exact ⟨h, rfl⟩ | exact fun a => ⟨h a, rfl⟩ | exact fun a b => ⟨h a b, rfl⟩ | exact fun a b c => ⟨h a b c, rfl⟩ | exact fun a b c d => ⟨h a b c d, rfl⟩ | exact fun a b c d e => ⟨h a b c d e, rfl⟩ | exact fun a b c d e f => ⟨h a b c d e f, rfl⟩ | exact fun a b c d e f i => ⟨h a b c d e f i, rfl⟩ | exact fun a b c d e f i j => ⟨h a b c d e f i j, rfl⟩ | exact fun a b c d e f i j k => ⟨h a b c d e f i j k, rfl⟩ | exact fun a b c d e f i j k l => ⟨h a b c d e f i j k l, rfl⟩⟩
theorem body_path_of (n_list : mg "list" = none) : BodyOk P w K mg base N_path_of "path_of" s_path_of 0 (q_path_of C) := fun f H0 M0 iol cdv A outer s H E g =>
  (s_one (s_ret (q_add g (q_add g (q_lst (a_cons (q_ixU g (q_var (pv 0)) (q_ixU g (q_var (pv 2)) q_int)) a_nil)) (q_listU g n_list (b_cons (q_ixU g (q_var (pv 1)) (q_var (pv 2))) b_nil))) (q_lst (a_cons (q_ixU g (q_var (pv 0)) (q_ixU g (q_var (pv 2)) q_int)) a_nil)))))
theorem has_path_of (D : DefAt K mg "path_of" s_path_of) (n_list : mg "list" = none) : HasD P w K mg base "path_of" ["points", "lines", "edge"] 1 (g_path_of C) := def_has D sc_path_of bd_path_of ar_path_of out_path_of (body_path_of n_list) (hq_path_of C)
abbrev s_are_in_general_position : Stmt := top 34
abbrev N_are_in_general_position : List Str := ["graph", "points", "lines", "vertex", "places", "edge", "path", "start", "end"]
theorem sc_are_in_general_position : FnScope N_are_in_general_position ["graph", "points", "lines"] (defScope s_are_in_general_position) := ⟨rfl, rfl, rfl, by decide +kernel, rfl, by decide +kernel, by decide +kernel⟩
theorem bd_are_in_general_position : BindsBy "are_in_general_position" "are_in_general_position" s_are_in_general_position ["graph", "points", "lines"] := fun _ _ _ _ _ _ us hl => match us, hl with | [_, _, _], _ => rfl
theorem ar_are_in_general_position : ∀ ss Q, g_are_in_general_position C ss Q → ss.length = 3 := by rintro _ Q ⟨v0, v1, v2, v3, v4, v5, v6, c0, c1, c2, c3, c4, c5, rfl, h⟩; rfl
theorem out_are_in_general_position : Out (g_are_in_general_position C) := by
  rintro _ Q ⟨v0, v1, v2, v3, v4, v5, v6, c0, c1, c2, c3, c4, c5, rfl, h⟩
  exact ⟨v0, v1, v2, v3, v4, v5, v6, c0, c1, c2, c3, c4, c5, rfl, by first | exact ⟨h, rfl⟩ | exact fun a => ⟨h a, rfl⟩ | exact fun a b => ⟨h a b, rfl⟩ | exact fun a b c => ⟨h a b c, rfl⟩ | exact fun a b c d => ⟨h a b c d, rfl⟩ | exact fun a b c d e => ⟨h a b c d e, rfl⟩ | exact fun a b c d e f => ⟨h a b c d e f, rfl⟩ | exact fun a b c d e f i => ⟨h a b c d e f i, rfl⟩ | exact fun a b c d e f i j => ⟨h a b c d e f i j, rfl⟩ | exact fun a b c d e f i j k => ⟨h a b c d e f i j k, rfl⟩ | exact fun a b c d e f i j k l => ⟨h a b c d e f i j k l, rfl⟩⟩
theorem body_are_in_general_position (n_len : mg "len" = none) (n_list : mg "list" = none) (n_set : mg "set" = none) (n_zip : mg "zip" = none) (cls : Cls K C) (na_edges : NoAttr K C "edges") (na_vertices : NoAttr K C "vertices") (h_offsets : HasD P w K mg base "offsets" ["start", "end", "places"] 1 (g_offsets C)) (h_others_in_box : HasD P w K mg base "others_in_box" ["start", "end", "places"] 1 (g_others_in_box C)) (h_path_of : HasD P w K mg base "path_of" ["points", "lines", "edge"] 1 (g_path_of C)) : BodyOk P w K mg base N_are_in_general_position "are_in_general_position" s_are_in_general_position 1 (q_are_in_general_position C) := fun f H0 M0 iol cdv A outer s H E g =>
  (s_cons (s_setLc (i := 4) (own := [("vertex", 3)]) g (sw_true rfl rfl rfl (by decide +kernel)) (i_any g (q_fld (f := "vertices") g cls na_vertices (q_var (pv 0)))) (blkOk_by (own := [("vertex", 3)]) (N := N_are_in_general_position) (sc := defScope s_are_in_general_position) (by decide +kernel)) (fun _ _ _ _ _ _ _ g => (g_name (i := 3) g.nd)) (fun _ _ _ _ _ _ _ g => t_yes) (fun _ _ _ _ _ _ _ g => (q_ixU g (q_var (pv 1)) (q_var (pv 3)))))
  (s_cons (s_for (vs := [5]) PassesOwn.never g (i_any g (q_fld (f := "edges") g cls na_edges (q_var (pv 0)))) (g_name (i := 5) g.nd) (s_one (s_augAdd (i := 4) g (q_listU g n_list (b_cons (q_ixU g (q_var (pv 2)) (q_var (pv 5))) b_nil)))))
  (s_cons (s_if (t_cmpQ (c_ne g) (q_lenSet g n_len n_set (q_var (pv 4))) (q_lenU g n_len (b_cons (q_var (pv 4)) b_nil))) (s_one (s_ret q_bl)) s_nil)
  (s_cons (s_for (vs := [5]) PassesOwn.never g (i_any g (q_fld (f := "edges") g cls na_edges (q_var (pv 0)))) (g_name (i := 5) g.nd) (s_cons (s_set (i := 6) g (q_callK g h_path_of (by decide) (a_cons (q_var (pv 1)) (a_cons (q_var (pv 2)) (a_cons (q_var (pv 5)) a_nil)))))
  (s_one (s_for (vs := [7, 8]) PassesOwn.never g (i_zip g n_zip (a_cons (q_var (pv 6)) (a_cons (q_sl g (q_var (pv 6)) (o_some q_int) o_none) a_nil))) (g_tup g (g_cons (g_name (i := 7) g.nd) (g_cons (g_name (i := 8) g.nd) g_nil))) (s_one (s_if (t_cmpQ (c_inU g) q_int (q_callK g h_offsets (by decide) (a_cons (q_var (pv 7)) (a_cons (q_var (pv 8)) (a_cons (q_callK g h_others_in_box (by decide) (a_cons (q_var (pv 7)) (a_cons (q_var (pv 8)) (a_cons (q_var (pv 4)) a_nil)))) a_nil)))) (by with_unfolding_all rfl)) (s_one (s_ret q_bl)) s_nil))))))
  (s_one (s_ret q_bl))))))
theorem has_are_in_general_position (D : DefAt K mg "are_in_general_position" s_are_in_general_position) (n_len : mg "len" = none) (n_list : mg "list" = none) (n_set : mg "set" = none) (n_zip : mg "zip" = none) (cls : Cls K C) (na_edges : NoAttr K C "edges") (na_vertices : NoAttr K C "vertices") (h_offsets : HasD P w K mg base "offsets" ["start", "end", "places"] 1 (g_offsets C)) (h_others_in_box : HasD P w K mg base "others_in_box" ["start", "end", "places"] 1 (g_others_in_box C)) (h_path_of : HasD P w K mg base "path_of" ["points", "lines", "edge"] 1 (g_path_of C)) : HasD P w K mg base "are_in_general_position" ["graph", "points", "lines"] 2 (g_are_in_general_position C) := def_has D sc_are_in_general_position bd_are_in_general_position ar_are_in_general_position out_are_in_general_position (body_are_in_general_position n_len n_list n_set n_zip cls na_edges na_vertices h_offsets h_others_in_box h_path_of) (hq_are_in_general_position C)
abbrev s_is_coordinate : Stmt := top 26
abbrev N_is_coordinate : List Str := ["value"]
theorem sc_is_coordinate : FnScope N_is_coordinate ["value"] (defScope s_is_coordinate) := ⟨rfl, rfl, rfl, by decide +kernel, rfl, by decide +kernel, by decide +kernel⟩
theorem bd_is_coordinate : BindsBy "is_coordinate" "is_coordinate" s_is_coordinate ["value"] := fun _ _ _ _ _ _ us hl => match us, hl with | [_], _ => rfl
theorem ar_is_coordinate : ∀ ss Q, g_is_coordinate C ss Q → ss.length = 1 := by rintro _ Q ⟨v0, c0, rfl, h⟩; rfl
theorem out_is_coordinate : Out (g_is_coordinate C) := by
  rintro _ Q ⟨v0, c0, rfl, h⟩
  exact ⟨v0, c0, rfl, by first | exact ⟨h, rfl⟩ | exact fun a => ⟨h a, rfl⟩ | exact fun a b => ⟨h a b, rfl⟩ | exact fun a b c => ⟨h a b c, rfl⟩ | exact fun a b c d => ⟨h a b c d, rfl⟩ | exact fun a b c d e => ⟨h a b c d e, rfl⟩ | exact fun a b c d e f => ⟨h a b c d e f, rfl⟩ | exact fun a b c d e f i => ⟨h a b c d e f i, rfl⟩ | exact fun a b c d e f i j => ⟨h a b c d e f i j, rfl⟩ | exact fun a b c d e f i j k => ⟨h a b c d e f i j k, rfl⟩ | exact fun a b c d e f i j k l => ⟨h a b c d e f i j k l, rfl⟩⟩
theorem body_is_coordinate (n_abs : mg "abs" = none) (n_bool : mg "bool" = none) (n_int : mg "int" = none) (n_isinstance : mg "isinstance" = none) (x_FARTHEST : ∃ t, mg "FARTHEST" = some (.int 1000000000000000000000000000000 t)) : BodyOk P w K mg base N_is_coordinate "is_coordinate" s_is_coordinate 0 (q_is_coordinate C) := fun f H0 M0 iol cdv A outer s H E g =>
  (s_one (s_ret (v_and (q_isa g n_isinstance (b_cons (q_var (pv 0)) (b_cons (q_ty (by rfl) n_int (by decide +kernel)) b_nil))) (v_and (v_not (q_isa g n_isinstance (b_cons (q_var (pv 0)) (b_cons (q_ty (by rfl) n_bool (by decide +kernel)) b_nil)))) (v_one (v_cmp (c_le g) (q_abs n_abs (b_cons (q_var (pv 0)) b_nil)) (q_globI (by rfl) x_FARTHEST.choose_spec ⟨_, rfl⟩)))))))
theorem has_is_coordinate (D : DefAt K mg "is_coordinate" s_is_coordinate) (n_abs : mg "abs" = none) (n_bool : mg "bool" = none) (n_int : mg "int" = none) (n_isinstance : mg "isinstance" = none) (x_FARTHEST : ∃ t, mg "FARTHEST" = some (.int 1000000000000000000000000000000 t)) : HasD P w K mg base "is_coordinate" ["value"] 1 (g_is_coordinate C) := def_has D sc_is_coordinate bd_is_coordinate ar_is_coordinate out_is_coordinate (body_is_coordinate n_abs n_bool n_int n_isinstance x_FARTHEST) (hq_is_coordinate C)
abbrev s_is_couple : Stmt := top 15
abbrev N_is_couple : List Str := ["value"]
theorem sc_is_couple : FnScope N_is_couple ["value"] (defScope s_is_couple) := ⟨rfl, rfl, rfl, by decide +kernel, rfl, by decide +kernel, by decide +kernel⟩
theorem bd_is_couple : BindsBy "is_couple" "is_couple" s_is_couple ["value"] := fun _ _ _ _ _ _ us hl => match us, hl with | [_], _ => rfl
theorem ar_is_couple : ∀ ss Q, g_is_couple C ss Q → ss.length = 1 := by rintro _ Q ⟨v0, v1, rfl, h⟩; rfl
theorem out_is_couple : Out (g_is_couple C) := by
  rintro _ Q ⟨v0, v1, rfl, h⟩
  exact ⟨v0, v1, rfl, by first | exact ⟨h, rfl⟩ | exact fun a => ⟨h a, rfl⟩ | exact fun a b => ⟨h a b, rfl⟩ | exact fun a b c => ⟨h a b c, rfl⟩ | exact fun a b c d => ⟨h a b c d, rfl⟩ | exact fun a b c d e => ⟨h a b c d e, rfl⟩ | exact fun a b c d e f => ⟨h a b c d e f, rfl⟩ | exact fun a b c d e f i => ⟨h a b c d e f i, rfl⟩ | exact fun a b c d e f i j => ⟨h a b c d e f i j, rfl⟩ | exact fun a b c d e f i j k => ⟨h a b c d e f i j k, rfl⟩ | exact fun a b c d e f i j k l => ⟨h a b c d e f i j k l, rfl⟩⟩
theorem body_is_couple (n_isinstance : mg "isinstance" = none) (n_len : mg "len" = none) (n_tuple : mg "tuple" = none) : BodyOk P w K mg base N_is_couple "is_couple" s_is_couple 0 (q_is_couple C) := fun f H0 M0 iol cdv A outer s H E g =>
  (s_one (s_ret (v_and (q_isa g n_isinstance (b_cons (q_var (pv 0)) (b_cons (q_ty (by rfl) n_tuple (by decide +kernel)) b_nil))) (v_one (v_cmp (c_eq g) (q_lenU g n_len (b_cons (q_var (pv 0)) b_nil)) q_int)))))
theorem has_is_couple (D : DefAt K mg "is_couple" s_is_couple) (n_isinstance : mg "isinstance" = none) (n_len : mg "len" = none) (n_tuple : mg "tuple" = none) : HasD P w K mg base "is_couple" ["value"] 1 (g_is_couple C) := def_has D sc_is_couple bd_is_couple ar_is_couple out_is_couple (body_is_couple n_isinstance n_len n_tuple) (hq_is_couple C)
theorem ar_is_coupleU : ∀ ss Q, g_is_coupleU C ss Q → ss.length = 1 := by rintro _ Q ⟨v0, c0, rfl, h⟩; rfl
theorem out_is_coupleU : Out (g_is_coupleU C) := by
  rintro _ Q ⟨v0, c0, rfl, h⟩
  exact ⟨v0, c0, rfl, by first | exact ⟨h, rfl⟩ | exact fun a => ⟨h a, rfl⟩ | exact fun a b => ⟨h a b, rfl⟩ | exact fun a b c => ⟨h a b c, rfl⟩⟩
theorem body_is_coupleU (n_isinstance : mg "isinstance" = none) (n_len : mg "len" = none) (n_tuple : mg "tuple" = none) : BodyOk P w K mg base N_is_couple "is_couple" s_is_couple 0 (q_is_coupleU C) := fun f H0 M0 iol cdv A outer s H E g =>
  (s_one (s_ret (v_and (q_isaU g n_isinstance (b_cons (q_var (pv 0)) (b_cons (q_ty (by rfl) n_tuple (by decide +kernel)) b_nil))) (v_one (v_cmp (c_eq g) (q_lenU g n_len (b_cons (q_var (pv 0)) b_nil)) q_int)))))
theorem has_is_coupleU (D : DefAt K mg "is_couple" s_is_couple) (n_isinstance : mg "isinstance" = none) (n_len : mg "len" = none) (n_tuple : mg "tuple" = none) : HasD P w K mg base "is_couple" ["value"] 1 (g_is_coupleU C) := def_has D sc_is_couple bd_is_couple ar_is_coupleU out_is_coupleU (body_is_coupleU n_isinstance n_len n_tuple) (hq_is_coupleU C)
abbrev s_is_place : Stmt := top 27
abbrev N_is_place : List Str := ["value"]
theorem sc_is_place : FnScope N_is_place ["value"] (defScope s_is_place) := ⟨rfl, rfl, rfl, by decide +kernel, rfl, by decide +kernel, by decide +kernel⟩
theorem bd_is_place : BindsBy "is_place" "is_place" s_is_place ["value"] := fun _ _ _ _ _ _ us hl => match us, hl with | [_], _ => rfl
theorem ar_is_place : ∀ ss Q, g_is_place C ss Q → ss.length = 1 := by rintro _ Q ⟨v0, c0, rfl, h⟩; rfl
theorem out_is_place : Out (g_is_place C) := by
  rintro _ Q ⟨v0, c0, rfl, h⟩
  exact ⟨v0, c0, rfl, by first | exact ⟨h, rfl⟩ | exact fun a => ⟨h a, rfl⟩ | exact fun a b => ⟨h a b, rfl⟩ | exact fun a b c => ⟨h a b c, rfl⟩ | exact fun a b c d => ⟨h a b c d, rfl⟩ | exact fun a b c d e => ⟨h a b c d e, rfl⟩ | exact fun a b c d e f => ⟨h a b c d e f, rfl⟩ | exact fun a b c d e f i => ⟨h a b c d e f i, rfl⟩ | exact fun a b c d e f i j => ⟨h a b c d e f i j, rfl⟩ | exact fun a b c d e f i j k => ⟨h a b c d e f i j k, rfl⟩ | exact fun a b c d e f i j k l => ⟨h a b c d e f i j k l, rfl⟩⟩
theorem body_is_place (h_is_coordinate : HasD P w K mg base "is_coordinate" ["value"] 1 (g_is_coordinate C)) (h_is_couple : HasD P w K mg base "is_couple" ["value"] 1 (g_is_couple C)) : BodyOk P w K mg base N_is_place "is_place" s_is_place 1 (q_is_place C) := fun f H0 M0 iol cdv A outer s H E g =>
  (s_one (s_ret (v_and (q_callK g h_is_couple (by decide) (a_cons (q_var (pv 0)) a_nil)) (v_and (q_callK g h_is_coordinate (by decide) (a_cons (q_ixU g (q_var (pv 0)) q_int) a_nil)) (v_one (q_callK g h_is_coordinate (by decide) (a_cons (q_ixU g (q_var (pv 0)) q_int) a_nil)))))))
theorem has_is_place (D : DefAt K mg "is_place" s_is_place) (h_is_coordinate : HasD P w K mg base "is_coordinate" ["value"] 1 (g_is_coordinate C)) (h_is_couple : HasD P w K mg base "is_couple" ["value"] 1 (g_is_couple C)) : HasD P w K mg base "is_place" ["value"] 2 (g_is_place C) := def_has D sc_is_place bd_is_place ar_is_place out_is_place (body_is_place h_is_coordinate h_is_couple) (hq_is_place C)
abbrev s_is_row : Stmt := top 14
abbrev N_is_row : List Str := ["value"]
theorem sc_is_row : FnScope N_is_row ["value"] (defScope s_is_row) := ⟨rfl, rfl, rfl, by decide +kernel, rfl, by decide +kernel, by decide +kernel⟩
theorem bd_is_row : BindsBy "is_row" "is_row" s_is_row ["value"] := fun _ _ _ _ _ _ us hl => match us, hl with | [_], _ => rfl
theorem ar_is_row : ∀ ss Q, g_is_row C ss Q → ss.length = 1 := by rintro _ Q ⟨v0, c0, rfl, h⟩; rfl
theorem out_is_row : Out (g_is_row C) := by
  rintro _ Q ⟨v0, c0, rfl, h⟩
  exact ⟨v0, c0, rfl, by first | exact ⟨h, rfl⟩ | exact fun a => ⟨h a, rfl⟩ | exact fun a b => ⟨h a b, rfl⟩ | exact fun a b c => ⟨h a b c, rfl⟩ | exact fun a b c d => ⟨h a b c d, rfl⟩ | exact fun a b c d e => ⟨h a b c d e, rfl⟩ | exact fun a b c d e f => ⟨h a b c d e f, rfl⟩ | exact fun a b c d e f i => ⟨h a b c d e f i, rfl⟩ | exact fun a b c d e f i j => ⟨h a b c d e f i j, rfl⟩ | exact fun a b c d e f i j k => ⟨h a b c d e f i j k, rfl⟩ | exact fun a b c d e f i j k l => ⟨h a b c d e f i j k l, rfl⟩⟩
theorem body_is_row (n_isinstance : mg "isinstance" = none) (n_list : mg "list" = none) (n_tuple : mg "tuple" = none) : BodyOk P w K mg base N_is_row "is_row" s_is_row 0 (q_is_row C) := fun f H0 M0 iol cdv A outer s H E g =>
  (s_one (s_ret (q_isa g n_isinstance (b_cons (q_var (pv 0)) (b_cons (q_tup (a_cons (q_ty (by rfl) n_list (by decide +kernel)) (a_cons (q_ty (by rfl) n_tuple (by decide +kernel)) a_nil))) b_nil)))))
theorem has_is_row (D : DefAt K mg "is_row" s_is_row) (n_isinstance : mg "isinstance" = none) (n_list : mg "list" = none) (n_tuple : mg "tuple" = none) : HasD P w K mg base "is_row" ["value"] 1 (g_is_row C) := def_has D sc_is_row bd_is_row ar_is_row out_is_row (body_is_row n_isinstance n_list n_tuple) (hq_is_row C)
abbrev s_are_bends : Stmt := top 29
abbrev N_are_bends : List Str := ["value", "bend"]
theorem sc_are_bends : FnScope N_are_bends ["value"] (defScope s_are_bends) := ⟨rfl, rfl, rfl, by decide +kernel, rfl, by decide +kernel, by decide +kernel⟩
theorem bd_are_bends : BindsBy "are_bends" "are_bends" s_are_bends ["value"] := fun _ _ _ _ _ _ us hl => match us, hl with | [_], _ => rfl
theorem ar_are_bends : ∀ ss Q, g_are_bends C ss Q → ss.length = 1 := by rintro _ Q ⟨v0, v1, c0, c1, c2, rfl, h⟩; rfl
theorem out_are_bends : Out (g_are_bends C) := by
  rintro _ Q ⟨v0, v1, c0, c1, c2, rfl, h⟩
  exact ⟨v0, v1, c0, c1, c2, rfl, by first | exact ⟨h, rfl⟩ | exact fun a => ⟨h a, rfl⟩ | exact fun a b => ⟨h a b, rfl⟩ | exact fun a b c => ⟨h a b c, rfl⟩ | exact fun a b c d => ⟨h a b c d, rfl⟩ | exact fun a b c d e => ⟨h a b c d e, rfl⟩ | exact fun a b c d e f => ⟨h a b c d e f, rfl⟩ | exact fun a b c d e f i => ⟨h a b c d e f i, rfl⟩ | exact fun a b c d e f i j => ⟨h a b c d e f i j, rfl⟩ | exact fun a b c d e f i j k => ⟨h a b c d e f i j k, rfl⟩ | exact fun a b c d e f i j k l => ⟨h a b c d e f i j k l, rfl⟩⟩
theorem body_are_bends (n_all : mg "all" = none) (n_len : mg "len" = none) (x_MOST_BENDS : ∃ t, mg "MOST_BENDS" = some (.int 60 t)) (h_is_place : HasD P w K mg base "is_place" ["value"] 2 (g_is_place C)) (h_is_row : HasD P w K mg base "is_row" ["value"] 1 (g_is_row C)) : BodyOk P w K mg base N_are_bends "are_bends" s_are_bends 2 (q_are_bends C) := fun f H0 M0 iol cdv A outer s H E g =>
  (s_one (s_ret (v_and (q_callK g h_is_row (by decide) (a_cons (q_var (pv 0)) a_nil)) (v_and (v_cmp (c_le g) (q_lenU g n_len (b_cons (q_var (pv 0)) b_nil)) (q_globI (by rfl) x_MOST_BENDS.choose_spec ⟨_, rfl⟩)) (v_one (q_all g n_all (b_cons (q_lc (own := [("bend", 1)]) g (i_any g (q_var (pv 0))) (blkOk_by (own := [("bend", 1)]) (N := N_are_bends) (sc := defScope s_are_bends) (by decide +kernel)) (fun _ _ _ _ _ _ _ g => (g_name (i := 1) g.nd)) (fun _ _ _ _ _ _ _ g => t_yes) (fun _ _ _ _ _ _ _ g => (q_callK g h_is_place (by decide) (a_cons (q_var (pv 1)) a_nil)))) b_nil)))))))
theorem has_are_bends (D : DefAt K mg "are_bends" s_are_bends) (n_all : mg "all" = none) (n_len : mg "len" = none) (x_MOST_BENDS : ∃ t, mg "MOST_BENDS" = some (.int 60 t)) (h_is_place : HasD P w K mg base "is_place" ["value"] 2 (g_is_place C)) (h_is_row : HasD P w K mg base "is_row" ["value"] 1 (g_is_row C)) : HasD P w K mg base "are_bends" ["value"] 3 (g_are_bends C) := def_has D sc_are_bends bd_are_bends ar_are_bends out_are_bends (body_are_bends n_all n_len x_MOST_BENDS h_is_place h_is_row) (hq_are_bends C)
abbrev s_is_among : Stmt := top 19
abbrev N_is_among : List Str := ["vertices", "value"]
theorem sc_is_among : FnScope N_is_among ["vertices", "value"] (defScope s_is_among) := ⟨rfl, rfl, rfl, by decide +kernel, rfl, by decide +kernel, by decide +kernel⟩
theorem bd_is_among : BindsBy "is_among" "is_among" s_is_among ["vertices", "value"] := fun _ _ _ _ _ _ us hl => match us, hl with | [_, _], _ => rfl
theorem ar_is_among : ∀ ss Q, g_is_among C ss Q → ss.length = 2 := by rintro _ Q ⟨v0, v1, v2, c0, c1, rfl, h⟩; rfl
theorem out_is_among : Out (g_is_among C) := by
  rintro _ Q ⟨v0, v1, v2, c0, c1, rfl, h⟩
  exact ⟨v0, v1, v2, c0, c1, rfl, by first | exact ⟨h, rfl⟩ | exact fun a => ⟨h a, rfl⟩ | exact fun a b => ⟨h a b, rfl⟩ | exact fun a b c => ⟨h a b c, rfl⟩ | exact fun a b c d => ⟨h a b c d, rfl⟩ | exact fun a b c d e => ⟨h a b c d e, rfl⟩ | exact fun a b c d e f => ⟨h a b c d e f, rfl⟩ | exact fun a b c d e f i => ⟨h a b c d e f i, rfl⟩ | exact fun a b c d e f i j => ⟨h a b c d e f i j, rfl⟩ | exact fun a b c d e f i j k => ⟨h a b c d e f i j k, rfl⟩ | exact fun a b c d e f i j k l => ⟨h a b c d e f i j k l, rfl⟩⟩
theorem body_is_among (n_isinstance : mg "isinstance" = none) (n_str : mg "str" = none) : BodyOk P w K mg base N_is_among "is_among" s_is_among 0 (q_is_among C) := fun f H0 M0 iol cdv A outer s H E g =>
  (s_one (s_ret (v_and (q_isa g n_isinstance (b_cons (q_var (pv 1)) (b_cons (q_ty (by rfl) n_str (by decide +kernel)) b_nil))) (v_one (v_cmp (c_inU g) (q_var (pv 1)) (q_var (pv 0)) (by with_unfolding_all rfl))))))
theorem has_is_among (D : DefAt K mg "is_among" s_is_among) (n_isinstance : mg "isinstance" = none) (n_str : mg "str" = none) : HasD P w K mg base "is_among" ["vertices", "value"] 1 (g_is_among C) := def_has D sc_is_among bd_is_among ar_is_among out_is_among (body_is_among n_isinstance n_str) (hq_is_among C)
theorem ar_is_amongU : ∀ ss Q, g_is_amongU C ss Q → ss.length = 2 := by rintro _ Q ⟨v0, v1, v2, c0, c1, rfl, h⟩; rfl
theorem out_is_amongU : Out (g_is_amongU C) := by
  rintro _ Q ⟨v0, v1, v2, c0, c1, rfl, h⟩
  exact ⟨v0, v1, v2, c0, c1, rfl, by first | exact ⟨h, rfl⟩ | exact fun a => ⟨h a, rfl⟩ | exact fun a b => ⟨h a b, rfl⟩ | exact fun a b c => ⟨h a b c, rfl⟩⟩
theorem body_is_amongU (n_isinstance : mg "isinstance" = none) (n_str : mg "str" = none) : BodyOk P w K mg base N_is_among "is_among" s_is_among 0 (q_is_amongU C) := fun f H0 M0 iol cdv A outer s H E g =>
  (s_one (s_ret (v_and (q_isaU g n_isinstance (b_cons (q_var (pv 1)) (b_cons (q_ty (by rfl) n_str (by decide +kernel)) b_nil))) (v_one (v_cmp (c_inU g) (q_var (pv 1)) (q_var (pv 0)) (by with_unfolding_all rfl))))))
theorem has_is_amongU (D : DefAt K mg "is_among" s_is_among) (n_isinstance : mg "isinstance" = none) (n_str : mg "str" = none) : HasD P w K mg base "is_among" ["vertices", "value"] 1 (g_is_amongU C) := def_has D sc_is_among bd_is_among ar_is_amongU out_is_amongU (body_is_amongU n_isinstance n_str) (hq_is_amongU C)
abbrev s_joins : Stmt := top 20
abbrev N_joins : List Str := ["vertices", "value", "low", "high"]
theorem sc_joins : FnScope N_joins ["vertices", "value"] (defScope s_joins) := ⟨rfl, rfl, rfl, by decide +kernel, rfl, by decide +kernel, by decide +kernel⟩
theorem bd_joins : BindsBy "joins" "joins" s_joins ["vertices", "value"] := fun _ _ _ _ _ _ us hl => match us, hl with | [_, _], _ => rfl
theorem ar_joins : ∀ ss Q, g_joins C ss Q → ss.length = 2 := by rintro _ Q ⟨v0, v1, v2, c0, c1, rfl, h⟩; rfl
theorem out_joins : Out (g_joins C) := by
  rintro _ Q ⟨v0, v1, v2, c0, c1, rfl, h⟩
  exact ⟨v0, v1, v2, c0, c1, rfl, by first | exact ⟨h, rfl⟩ | exact fun a => ⟨h a, rfl⟩ | exact fun a b => ⟨h a b, rfl⟩ | exact fun a b c => ⟨h a b c, rfl⟩ | exact fun a b c d => ⟨h a b c d, rfl⟩ | exact fun a b c d e => ⟨h a b c d e, rfl⟩ | exact fun a b c d e f => ⟨h a b c d e f, rfl⟩ | exact fun a b c d e f i => ⟨h a b c d e f i, rfl⟩ | exact fun a b c d e f i j => ⟨h a b c d e f i j, rfl⟩ | exact fun a b c d e f i j k => ⟨h a b c d e f i j k, rfl⟩ | exact fun a b c d e f i j k l => ⟨h a b c d e f i j k l, rfl⟩⟩
theorem body_joins (h_is_among : HasD P w K mg base "is_among" ["vertices", "value"] 1 (g_is_among C)) (h_is_couple : HasD P w K mg base "is_couple" ["value"] 1 (g_is_couple C)) : BodyOk P w K mg base N_joins "joins" s_joins 1 (q_joins C) := fun f H0 M0 iol cdv A outer s H E g =>
  (s_cons (s_if (t_not (t_val (q_callK g h_is_couple (by decide) (a_cons (q_var (pv 1)) a_nil)))) (s_one (s_ret q_bl)) s_nil)
  (s_cons (s_asg (vs := [2, 3]) (q_var (pv 1)) (g_tup g (g_cons (g_name (i := 2) g.nd) (g_cons (g_name (i := 3) g.nd) g_nil))))
  (s_one (s_ret (v_and (q_callK g h_is_among (by decide) (a_cons (q_var (pv 0)) (a_cons (q_var (pv 2)) a_nil))) (v_and (q_callK g h_is_among (by decide) (a_cons (q_var (pv 0)) (a_cons (q_var (pv 3)) a_nil))) (v_one (v_cmp (c_lt g) (q_var (pv 2)) (q_var (pv 3))))))))))
theorem has_joins (D : DefAt K mg "joins" s_joins) (h_is_among : HasD P w K mg base "is_among" ["vertices", "value"] 1 (g_is_among C)) (h_is_couple : HasD P w K mg base "is_couple" ["value"] 1 (g_is_couple C)) : HasD P w K mg base "joins" ["vertices", "value"] 2 (g_joins C) := def_has D sc_joins bd_joins ar_joins out_joins (body_joins h_is_among h_is_couple) (hq_joins C)
theorem ar_joinsU : ∀ ss Q, g_joinsU C ss Q → ss.length = 2 := by rintro _ Q ⟨v0, v1, v2, c0, c1, rfl, h⟩; rfl
theorem out_joinsU : Out (g_joinsU C) := by
  rintro _ Q ⟨v0, v1, v2, c0, c1, rfl, h⟩
  exact ⟨v0, v1, v2, c0, c1, rfl, by first | exact ⟨h, rfl⟩ | exact fun a => ⟨h a, rfl⟩ | exact fun a b => ⟨h a b, rfl⟩ | exact fun a b c => ⟨h a b c, rfl⟩⟩
theorem body_joinsU (h_is_amongU : HasD P w K mg base "is_among" ["vertices", "value"] 1 (g_is_amongU C)) (h_is_coupleU : HasD P w K mg base "is_couple" ["value"] 1 (g_is_coupleU C)) : BodyOk P w K mg base N_joins "joins" s_joins 1 (q_joinsU C) := fun f H0 M0 iol cdv A outer s H E g =>
  (s_cons (s_if (t_not (t_val (q_callK g h_is_coupleU (by decide) (a_cons (q_var (pv 1)) a_nil)))) (s_one (s_ret q_bl)) s_nil)
  (s_cons (s_asg (vs := [2, 3]) (q_var (pv 1)) (g_tup g (g_cons (g_name (i := 2) g.nd) (g_cons (g_name (i := 3) g.nd) g_nil))))
  (s_one (s_ret (v_and (q_callK g h_is_amongU (by decide) (a_cons (q_var (pv 0)) (a_cons (q_var (pv 2)) a_nil))) (v_and (q_callK g h_is_amongU (by decide) (a_cons (q_var (pv 0)) (a_cons (q_var (pv 3)) a_nil))) (v_one (v_cmp (c_lt g) (q_var (pv 2)) (q_var (pv 3))))))))))
theorem has_joinsU (D : DefAt K mg "joins" s_joins) (h_is_amongU : HasD P w K mg base "is_among" ["vertices", "value"] 1 (g_is_amongU C)) (h_is_coupleU : HasD P w K mg base "is_couple" ["value"] 1 (g_is_coupleU C)) : HasD P w K mg base "joins" ["vertices", "value"] 2 (g_joinsU C) := def_has D sc_joins bd_joins ar_joinsU out_joinsU (body_joinsU h_is_amongU h_is_coupleU) (hq_joinsU C)
abbrev s_is_edge : Stmt := top 21
abbrev N_is_edge : List Str := ["graph", "value"]
theorem sc_is_edge : FnScope N_is_edge ["graph", "value"] (defScope s_is_edge) := ⟨rfl, rfl, rfl, by decide +kernel, rfl, by decide +kernel, by decide +kernel⟩
theorem bd_is_edge : BindsBy "is_edge" "is_edge" s_is_edge ["graph", "value"] := fun _ _ _ _ _ _ us hl => match us, hl with | [_, _], _ => rfl
theorem ar_is_edge : ∀ ss Q, g_is_edge C ss Q → ss.length = 2 := by rintro _ Q ⟨v0, v1, v2, c0, c1, rfl, h⟩; rfl
theorem out_is_edge : Out (g_is_edge C) := by
  rintro _ Q ⟨v0, v1, v2, c0, c1, rfl, h⟩
  exact ⟨v0, v1, v2, c0, c1, rfl, by first | exact ⟨h, rfl⟩ | exact fun a => ⟨h a, rfl⟩ | exact fun a b => ⟨h a b, rfl⟩ | exact fun a b c => ⟨h a b c, rfl⟩ | exact fun a b c d => ⟨h a b c d, rfl⟩ | exact fun a b c d e => ⟨h a b c d e, rfl⟩ | exact fun a b c d e f => ⟨h a b c d e f, rfl⟩ | exact fun a b c d e f i => ⟨h a b c d e f i, rfl⟩ | exact fun a b c d e f i j => ⟨h a b c d e f i j, rfl⟩ | exact fun a b c d e f i j k => ⟨h a b c d e f i j k, rfl⟩ | exact fun a b c d e f i j k l => ⟨h a b c d e f i j k l, rfl⟩⟩
theorem body_is_edge (cls : Cls K C) (na_edges : NoAttr K C "edges") (na_vertices : NoAttr K C "vertices") (h_joins : HasD P w K mg base "joins" ["vertices", "value"] 2 (g_joins C)) : BodyOk P w K mg base N_is_edge "is_edge" s_is_edge 2 (q_is_edge C) := fun f H0 M0 iol cdv A outer s H E g =>
  (s_one (s_ret (v_and (q_callK g h_joins (by decide) (a_cons (q_fld (f := "vertices") g cls na_vertices (q_var (pv 0))) (a_cons (q_var (pv 1)) a_nil))) (v_one (v_cmp (c_inU g) (q_var (pv 1)) (q_fld (f := "edges") g cls na_edges (q_var (pv 0))) (by with_unfolding_all rfl))))))
theorem has_is_edge (D : DefAt K mg "is_edge" s_is_edge) (cls : Cls K C) (na_edges : NoAttr K C "edges") (na_vertices : NoAttr K C "vertices") (h_joins : HasD P w K mg base "joins" ["vertices", "value"] 2 (g_joins C)) : HasD P w K mg base "is_edge" ["graph", "value"] 3 (g_is_edge C) := def_has D sc_is_edge bd_is_edge ar_is_edge out_is_edge (body_is_edge cls na_edges na_vertices h_joins) (hq_is_edge C)
theorem ar_is_edgeU : ∀ ss Q, g_is_edgeU C ss Q → ss.length = 2 := by rintro _ Q ⟨v0, v1, v2, c0, c1, rfl, h⟩; rfl
theorem out_is_edgeU : Out (g_is_edgeU C) := by
  rintro _ Q ⟨v0, v1, v2, c0, c1, rfl, h⟩
  exact ⟨v0, v1, v2, c0, c1, rfl, by first | exact ⟨h, rfl⟩ | exact fun a => ⟨h a, rfl⟩ | exact fun a b => ⟨h a b, rfl⟩ | exact fun a b c => ⟨h a b c, rfl⟩⟩
theorem body_is_edgeU (cls : Cls K C) (na_edges : NoAttr K C "edges") (na_vertices : NoAttr K C "vertices") (h_joinsU : HasD P w K mg base "joins" ["vertices", "value"] 2 (g_joinsU C)) : BodyOk P w K mg base N_is_edge "is_edge" s_is_edge 2 (q_is_edgeU C) := fun f H0 M0 iol cdv A outer s H E g =>
  (s_one (s_ret (v_and (q_callK g h_joinsU (by decide) (a_cons (q_fld (f := "vertices") g cls na_vertices (q_var (pv 0))) (a_cons (q_var (pv 1)) a_nil))) (v_one (v_cmp (c_inU g) (q_var (pv 1)) (q_fld (f := "edges") g cls na_edges (q_var (pv 0))) (by with_unfolding_all rfl))))))
theorem has_is_edgeU (D : DefAt K mg "is_edge" s_is_edge) (cls : Cls K C) (na_edges : NoAttr K C "edges") (na_vertices : NoAttr K C "vertices") (h_joinsU : HasD P w K mg base "joins" ["vertices", "value"] 2 (g_joinsU C)) : HasD P w K mg base "is_edge" ["graph", "value"] 3 (g_is_edgeU C) := def_has D sc_is_edge bd_is_edge ar_is_edgeU out_is_edgeU (body_is_edgeU cls na_edges na_vertices h_joinsU) (hq_is_edgeU C)
abbrev s_are_lines : Stmt := top 30
abbrev N_are_lines : List Str := ["graph", "value", "key", "bends"]
theorem sc_are_lines : FnScope N_are_lines ["graph", "value"] (defScope s_are_lines) := ⟨rfl, rfl, rfl, by decide +kernel, rfl, by decide +kernel, by decide +kernel⟩
theorem bd_are_lines : BindsBy "are_lines" "are_lines" s_are_lines ["graph", "value"] := fun _ _ _ _ _ _ us hl => match us, hl with | [_, _], _ => rfl
theorem ar_are_lines : ∀ ss Q, g_are_lines C ss Q → ss.length = 2 := by rintro _ Q ⟨v0, v1, v2, v3, v4, c0, c1, c2, rfl, h⟩; rfl
theorem out_are_lines : Out (g_are_lines C) := by
  rintro _ Q ⟨v0, v1, v2, v3, v4, c0, c1, c2, rfl, h⟩
  exact ⟨v0, v1, v2, v3, v4, c0, c1, c2, rfl, by first | exact ⟨h, rfl⟩ | exact fun a => ⟨h a, rfl⟩ | exact fun a b => ⟨h a b, rfl⟩ | exact fun a b c => ⟨h a b c, rfl⟩ | exact fun a b c d => ⟨h a b c d, rfl⟩ | exact fun a b c d e => ⟨h a b c d e, rfl⟩ | exact fun a b c d e f => ⟨h a b c d e f, rfl⟩ | exact fun a b c d e f i => ⟨h a b c d e f i, rfl⟩ | exact fun a b c d e f i j => ⟨h a b c d e f i j, rfl⟩ | exact fun a b c d e f i j k => ⟨h a b c d e f i j k, rfl⟩ | exact fun a b c d e f i j k l => ⟨h a b c d e f i j k l, rfl⟩⟩
theorem body_are_lines (n_all : mg "all" = none) (n_dict : mg "dict" = none) (n_isinstance : mg "isinstance" = none) (n_len : mg "len" = none) (cls : Cls K C) (na_edges : NoAttr K C "edges") (h_are_bends : HasD P w K mg base "are_bends" ["value"] 3 (g_are_bends C)) (h_is_edge : HasD P w K mg base "is_edge" ["graph", "value"] 3 (g_is_edge C)) : BodyOk P w K mg base N_are_lines "are_lines" s_are_lines 3 (q_are_lines C) := fun f H0 M0 iol cdv A outer s H E g =>
  (s_cons (s_if (t_or (t_not (t_val (q_isaU g n_isinstance (b_cons (q_var (pv 1)) (b_cons (q_ty (by rfl) n_dict (by decide +kernel)) b_nil))))) (t_or1 (t_cmpQ (c_ne g) (q_lenU g n_len (b_cons (q_var (pv 1)) b_nil)) (q_lenU g n_len (b_cons (q_fld (f := "edges") g cls na_edges (q_var (pv 0))) b_nil))))).pt (s_one (s_ret q_bl)) s_nil)
  (s_one (s_ret (q_all g n_all (b_cons (q_lc (own := [("key", 2), ("bends", 3)]) g (i_items g (q_var (pv 1))) (blkOk_by (own := [("key", 2), ("bends", 3)]) (N := N_are_lines) (sc := defScope s_are_lines) (by decide +kernel)) (fun _ _ _ _ _ _ _ g => (g_tup g (g_cons (g_name (i := 2) g.nd) (g_cons (g_name (i := 3) g.nd) g_nil)))) (fun _ _ _ _ _ _ _ g => t_yes) (fun _ _ _ _ _ _ _ g => (v_and (q_callK g h_is_edge (by decide) (a_cons (q_var (pv 0)) (a_cons (q_var (pv 2)) a_nil))) (v_one (q_callK g h_are_bends (by decide) (a_cons (q_var (pv 3)) a_nil)))))) b_nil)))))
theorem has_are_lines (D : DefAt K mg "are_lines" s_are_lines) (n_all : mg "all" = none) (n_dict : mg "dict" = none) (n_isinstance : mg "isinstance" = none) (n_len : mg "len" = none) (cls : Cls K C) (na_edges : NoAttr K C "edges") (h_are_bends : HasD P w K mg base "are_bends" ["value"] 3 (g_are_bends C)) (h_is_edge : HasD P w K mg base "is_edge" ["graph", "value"] 3 (g_is_edge C)) : HasD P w K mg base "are_lines" ["graph", "value"] 4 (g_are_lines C) := def_has D sc_are_lines bd_are_lines ar_are_lines out_are_lines (body_are_lines n_all n_dict n_isinstance n_len cls na_edges h_are_bends h_is_edge) (hq_are_lines C)
abbrev s_are_points : Stmt := top 28
abbrev N_are_points : List Str := ["graph", "value", "key", "place"]
theorem sc_are_points : FnScope N_are_points ["graph", "value"] (defScope s_are_points) := ⟨rfl, rfl, rfl, by decide +kernel, rfl, by decide +kernel, by decide +kernel⟩
theorem bd_are_points : BindsBy "are_points" "are_points" s_are_points ["graph", "value"] := fun _ _ _ _ _ _ us hl => match us, hl with | [_, _], _ => rfl
theorem ar_are_points : ∀ ss Q, g_are_points C ss Q → ss.length = 2 := by rintro _ Q ⟨v0, v1, v2, v3, c0, c1, c2, rfl, h⟩; rfl
theorem out_are_points : Out (g_are_points C) := by
  rintro _ Q ⟨v0, v1, v2, v3, c0, c1, c2, rfl, h⟩
  exact ⟨v0, v1, v2, v3, c0, c1, c2, rfl, by first | exact ⟨h, rfl⟩ | exact fun a => ⟨h a, rfl⟩ | exact fun a b => ⟨h a b, rfl⟩ | exact fun a b c => ⟨h a b c, rfl⟩ | exact fun a b c d => ⟨h a b c d, rfl⟩ | exact fun a b c d e => ⟨h a b c d e, rfl⟩ | exact fun a b c d e f => ⟨h a b c d e f, rfl⟩ | exact fun a b c d e f i => ⟨h a b c d e f i, rfl⟩ | exact fun a b c d e f i j => ⟨h a b c d e f i j, rfl⟩ | exact fun a b c d e f i j k => ⟨h a b c d e f i j k, rfl⟩ | exact fun a b c d e f i j k l => ⟨h a b c d e f i j k l, rfl⟩⟩
theorem body_are_points (n_all : mg "all" = none) (n_dict : mg "dict" = none) (n_isinstance : mg "isinstance" = none) (n_len : mg "len" = none) (cls : Cls K C) (na_vertices : NoAttr K C "vertices") (h_is_among : HasD P w K mg base "is_among" ["vertices", "value"] 1 (g_is_among C)) (h_is_place : HasD P w K mg base "is_place" ["value"] 2 (g_is_place C)) : BodyOk P w K mg base N_are_points "are_points" s_are_points 2 (q_are_points C) := fun f H0 M0 iol cdv A outer s H E g =>
  (s_cons (s_if (t_or (t_not (t_val (q_isaU g n_isinstance (b_cons (q_var (pv 1)) (b_cons (q_ty (by rfl) n_dict (by decide +kernel)) b_nil))))) (t_or1 (t_cmpQ (c_ne g) (q_lenU g n_len (b_cons (q_var (pv 1)) b_nil)) (q_lenU g n_len (b_cons (q_fld (f := "vertices") g cls na_vertices (q_var (pv 0))) b_nil))))).pt (s_one (s_ret q_bl)) s_nil)
  (s_one (s_ret (q_all g n_all (b_cons (q_lc (own := [("key", 2), ("place", 3)]) g (i_items g (q_var (pv 1))) (blkOk_by (own := [("key", 2), ("place", 3)]) (N := N_are_points) (sc := defScope s_are_points) (by decide +kernel)) (fun _ _ _ _ _ _ _ g => (g_tup g (g_cons (g_name (i := 2) g.nd) (g_cons (g_name (i := 3) g.nd) g_nil)))) (fun _ _ _ _ _ _ _ g => t_yes) (fun _ _ _ _ _ _ _ g => (v_and (q_callK g h_is_among (by decide) (a_cons (q_fld (f := "vertices") g cls na_vertices (q_var (pv 0))) (a_cons (q_var (pv 2)) a_nil))) (v_one (q_callK g h_is_place (by decide) (a_cons (q_var (pv 3)) a_nil)))))) b_nil)))))
theorem has_are_points (D : DefAt K mg "are_points" s_are_points) (n_all : mg "all" = none) (n_dict : mg "dict" = none) (n_isinstance : mg "isinstance" = none) (n_len : mg "len" = none) (cls : Cls K C) (na_vertices : NoAttr K C "vertices") (h_is_among : HasD P w K mg base "is_among" ["vertices", "value"] 1 (g_is_among C)) (h_is_place : HasD P w K mg base "is_place" ["value"] 2 (g_is_place C)) : HasD P w K mg base "are_points" ["graph", "value"] 3 (g_are_points C) := def_has D sc_are_points bd_are_points ar_are_points out_are_points (body_are_points n_all n_dict n_isinstance n_len cls na_vertices h_is_among h_is_place) (hq_are_points C)
abbrev s_Drawing : Stmt := inClass (top 25) 0
abbrev N_Drawing : List Str := ["self", "graph", "points", "lines", "vertex", "edge"]
theorem sc_Drawing : FnScope N_Drawing ["self", "graph", "points", "lines"] (defScope s_Drawing) := ⟨rfl, rfl, rfl, by decide +kernel, rfl, by decide +kernel, by decide +kernel⟩
theorem bd_Drawing : BindsBy "__init__" "Drawing.__init__" s_Drawing ["self", "graph", "points", "lines"] := fun _ _ _ _ _ _ us hl => match us, hl with | [_, _, _, _], _ => rfl
theorem ar_Drawing : ∀ ss Q, g_Drawing C Cd ss Q → ss.length = 4 := by rintro _ Q ⟨v0, v1, v2, v3, v4, v5, v6, c0, c1, c2, c3, c4, c5, rfl, h⟩; rfl
theorem out_Drawing : Out (g_Drawing C Cd) := by
  rintro _ Q ⟨v0, v1, v2, v3, v4, v5, v6, c0, c1, c2, c3, c4, c5, rfl, h⟩
  exact ⟨v0, v1, v2, v3, v4, v5, v6, c0, c1, c2, c3, c4, c5, rfl, by first | exact ⟨h, rfl⟩ | exact fun a => ⟨h a, rfl⟩ | exact fun a b => ⟨h a b, rfl⟩ | exact fun a b c => ⟨h a b c, rfl⟩ | exact fun a b c d => ⟨h a b c d, rfl⟩ | exact fun a b c d e => ⟨h a b c d e, rfl⟩ | exact fun a b c d e f => ⟨h a b c d e f, rfl⟩ | exact fun a b c d e f i => ⟨h a b c d e f i, rfl⟩ | exact fun a b c d e f i j => ⟨h a b c d e f i j, rfl⟩ | exact fun a b c d e f i j k => ⟨h a b c d e f i j k, rfl⟩ | exact fun a b c d e f i j k l => ⟨h a b c d e f i j k l, rfl⟩⟩
theorem body_Drawing (n_tuple : mg "tuple" = none) (cls : Cls K C) (clsD : Cls K Cd) (naD_graph : NoAttr K Cd "graph") (naD_lines : NoAttr K Cd "lines") (naD_points : NoAttr K Cd "points") (na_edges : NoAttr K C "edges") (na_vertices : NoAttr K C "vertices") (h_are_in_general_position : HasD P w K mg base "are_in_general_position" ["graph", "points", "lines"] 2 (g_are_in_general_position C)) (h_are_lines : HasD P w K mg base "are_lines" ["graph", "value"] 4 (g_are_lines C)) (h_are_points : HasD P w K mg base "are_points" ["graph", "value"] 3 (g_are_points C)) : BodyOk P w K mg base N_Drawing "Drawing.__init__" s_Drawing 4 (q_Drawing C Cd) := fun f H0 M0 iol cdv A outer s H E g =>
  (s_cons (s_if (t_not (t_val (q_callK g h_are_points (by decide) (a_cons (q_var (pv 1)) (a_cons (q_var (pv 2)) a_nil))))) (s_one s_never) s_nil)
  (s_cons (s_if (t_not (t_val (q_callK g h_are_lines (by decide) (a_cons (q_var (pv 1)) (a_cons (q_var (pv 3)) a_nil))))) (s_one s_never) s_nil)
  (s_cons (s_if (t_not (t_val (q_callK g h_are_in_general_position (by decide) (a_cons (q_var (pv 1)) (a_cons (q_var (pv 2)) (a_cons (q_var (pv 3)) a_nil)))))) (s_one s_never) s_nil)
  (s_cons (s_fld (C := Cd) g clsD naD_graph (pv 0) (q_var (pv 1)))
  (s_cons (s_fld (C := Cd) g clsD naD_points (pv 0) (q_frz (q_dc (own := [("vertex", 4)]) false g (i_any g (q_fld (f := "vertices") g cls na_vertices (q_var (pv 1)))) (blkOk_by (own := [("vertex", 4)]) (N := N_Drawing) (sc := defScope s_Drawing) (by decide +kernel)) (fun _ _ _ _ _ _ _ g => (g_name (i := 4) g.nd)) (fun _ _ _ _ _ _ _ g => t_yes) (fun _ _ _ _ _ _ _ g => (q_var (pv 4))) (fun _ _ _ _ _ _ _ g => (q_ixU g (q_var (pv 2)) (q_var (pv 4)))))))
  (s_one (s_fld (C := Cd) g clsD naD_lines (pv 0) (q_frz (q_dc (own := [("edge", 5)]) true g (i_any g (q_fld (f := "edges") g cls na_edges (q_var (pv 1)))) (blkOk_by (own := [("edge", 5)]) (N := N_Drawing) (sc := defScope s_Drawing) (by decide +kernel)) (fun _ _ _ _ _ _ _ g => (g_name (i := 5) g.nd)) (fun _ _ _ _ _ _ _ g => t_yes) (fun _ _ _ _ _ _ _ g => (q_var (pv 5))) (fun _ _ _ _ _ _ _ g => (q_tuple g n_tuple (b_cons (q_ixU g (q_var (pv 3)) (q_var (pv 5))) b_nil))))))))))))
theorem has_Drawing (D : ∃ f fd, Fun K "__init__" "Drawing.__init__" s_Drawing f fd ∧ Mk K Cd f) (hm : mg "Drawing" = some (.ref Cd)) (n_tuple : mg "tuple" = none) (cls : Cls K C) (clsD : Cls K Cd) (naD_graph : NoAttr K Cd "graph") (naD_lines : NoAttr K Cd "lines") (naD_points : NoAttr K Cd "points") (na_edges : NoAttr K C "edges") (na_vertices : NoAttr K C "vertices") (h_are_in_general_position : HasD P w K mg base "are_in_general_position" ["graph", "points", "lines"] 2 (g_are_in_general_position C)) (h_are_lines : HasD P w K mg base "are_lines" ["graph", "value"] 4 (g_are_lines C)) (h_are_points : HasD P w K mg base "are_points" ["graph", "value"] 3 (g_are_points C)) : HasMk P w K mg base "Drawing" Cd ["self", "graph", "points", "lines"] 5 (g_Drawing C Cd) := mk_has D hm sc_Drawing bd_Drawing ar_Drawing out_Drawing (body_Drawing n_tuple cls clsD naD_graph naD_lines naD_points na_edges na_vertices h_are_in_general_position h_are_lines h_are_points) (hq_Drawing C Cd)
abbrev s_are_edges : Stmt := top 18
abbrev N_are_edges : List Str := ["vertices", "value", "edge"]
theorem sc_are_edges : FnScope N_are_edges ["vertices", "value"] (defScope s_are_edges) := ⟨rfl, rfl, rfl, by decide +kernel, rfl, by decide +kernel, by decide +kernel⟩
theorem bd_are_edges : BindsBy "are_edges" "are_edges" s_are_edges ["vertices", "value"] := fun _ _ _ _ _ _ us hl => match us, hl with | [_, _], _ => rfl
theorem ar_are_edges : ∀ ss Q, g_are_edges C ss Q → ss.length = 2 := by rintro _ Q ⟨v0, v1, v2, v3, c0, c1, c2, rfl, h⟩; rfl
theorem out_are_edges : Out (g_are_edges C) := by
  rintro _ Q ⟨v0, v1, v2, v3, c0, c1, c2, rfl, h⟩
  exact ⟨v0, v1, v2, v3, c0, c1, c2, rfl, by first | exact ⟨h, rfl⟩ | exact fun a => ⟨h a, rfl⟩ | exact fun a b => ⟨h a b, rfl⟩ | exact fun a b c => ⟨h a b c, rfl⟩ | exact fun a b c d => ⟨h a b c d, rfl⟩ | exact fun a b c d e => ⟨h a b c d e, rfl⟩ | exact fun a b c d e f => ⟨h a b c d e f, rfl⟩ | exact fun a b c d e f i => ⟨h a b c d e f i, rfl⟩ | exact fun a b c d e f i j => ⟨h a b c d e f i j, rfl⟩ | exact fun a b c d e f i j k => ⟨h a b c d e f i j k, rfl⟩ | exact fun a b c d e f i j k l => ⟨h a b c d e f i j k l, rfl⟩⟩
theorem body_are_edges (n_all : mg "all" = none) (n_len : mg "len" = none) (n_set : mg "set" = none) (x_MOST_EDGES : ∃ t, mg "MOST_EDGES" = some (.int 18 t)) (h_is_row : HasD P w K mg base "is_row" ["value"] 1 (g_is_row C)) (h_joins : HasD P w K mg base "joins" ["vertices", "value"] 2 (g_joins C)) : BodyOk P w K mg base N_are_edges "are_edges" s_are_edges 2 (q_are_edges C) := fun f H0 M0 iol cdv A outer s H E g =>
  (s_cons (s_if (t_or (t_not (t_val (q_callK g h_is_row (by decide) (a_cons (q_var (pv 1)) a_nil)))) (t_or1 (t_cmpQ (c_gt g) (q_lenU g n_len (b_cons (q_var (pv 1)) b_nil)) (q_globI (by rfl) x_MOST_EDGES.choose_spec ⟨_, rfl⟩)))).pt (s_one (s_ret q_bl)) s_nil)
  (s_one (s_ret (v_and (q_all g n_all (b_cons (q_lc (own := [("edge", 2)]) g (i_any g (q_var (pv 1))) (blkOk_by (own := [("edge", 2)]) (N := N_are_edges) (sc := defScope s_are_edges) (by decide +kernel)) (fun _ _ _ _ _ _ _ g => (g_name (i := 2) g.nd)) (fun _ _ _ _ _ _ _ g => t_yes) (fun _ _ _ _ _ _ _ g => (q_callK g h_joins (by decide) (a_cons (q_var (pv 0)) (a_cons (q_var (pv 2)) a_nil))))) b_nil)) (v_one (v_cmp (c_eq g) (q_lenSet g n_len n_set (q_var (pv 1))) (q_lenU g n_len (b_cons (q_var (pv 1)) b_nil))))))))
theorem has_are_edges (D : DefAt K mg "are_edges" s_are_edges) (n_all : mg "all" = none) (n_len : mg "len" = none) (n_set : mg "set" = none) (x_MOST_EDGES : ∃ t, mg "MOST_EDGES" = some (.int 18 t)) (h_is_row : HasD P w K mg base "is_row" ["value"] 1 (g_is_row C)) (h_joins : HasD P w K mg base "joins" ["vertices", "value"] 2 (g_joins C)) : HasD P w K mg base "are_edges" ["vertices", "value"] 3 (g_are_edges C) := def_has D sc_are_edges bd_are_edges ar_are_edges out_are_edges (body_are_edges n_all n_len n_set x_MOST_EDGES h_is_row h_joins) (hq_are_edges C)
abbrev s_is_name : Stmt := top 16
abbrev N_is_name : List Str := ["value", "letter"]
theorem sc_is_name : FnScope N_is_name ["value"] (defScope s_is_name) := ⟨rfl, rfl, rfl, by decide +kernel, rfl, by decide +kernel, by decide +kernel⟩
theorem bd_is_name : BindsBy "is_name" "is_name" s_is_name ["value"] := fun _ _ _ _ _ _ us hl => match us, hl with | [_], _ => rfl
theorem ar_is_name : ∀ ss Q, g_is_name C ss Q → ss.length = 1 := by rintro _ Q ⟨v0, c0, rfl, h⟩; rfl
theorem out_is_name : Out (g_is_name C) := by
  rintro _ Q ⟨v0, c0, rfl, h⟩
  exact ⟨v0, c0, rfl, by first | exact ⟨h, rfl⟩ | exact fun a => ⟨h a, rfl⟩ | exact fun a b => ⟨h a b, rfl⟩ | exact fun a b c => ⟨h a b c, rfl⟩ | exact fun a b c d => ⟨h a b c d, rfl⟩ | exact fun a b c d e => ⟨h a b c d e, rfl⟩ | exact fun a b c d e f => ⟨h a b c d e f, rfl⟩ | exact fun a b c d e f i => ⟨h a b c d e f i, rfl⟩ | exact fun a b c d e f i j => ⟨h a b c d e f i j, rfl⟩ | exact fun a b c d e f i j k => ⟨h a b c d e f i j k, rfl⟩ | exact fun a b c d e f i j k l => ⟨h a b c d e f i j k l, rfl⟩⟩
theorem body_is_name (n_all : mg "all" = none) (n_isinstance : mg "isinstance" = none) (n_len : mg "len" = none) (n_str : mg "str" = none) (x_LETTERS : ∃ t, mg "LETTERS" = some (.str v_LETTERS t)) (x_LONGEST_NAME : ∃ t, mg "LONGEST_NAME" = some (.int 8 t)) : BodyOk P w K mg base N_is_name "is_name" s_is_name 0 (q_is_name C) := fun f H0 M0 iol cdv A outer s H E g =>
  (s_cons (s_if (t_or (t_not (t_val (q_isa g n_isinstance (b_cons (q_var (pv 0)) (b_cons (q_ty (by rfl) n_str (by decide +kernel)) b_nil))))) (t_or (t_cmpQ (c_eq g) (q_lenU g n_len (b_cons (q_var (pv 0)) b_nil)) q_int) (t_or1 (t_cmpQ (c_gt g) (q_lenU g n_len (b_cons (q_var (pv 0)) b_nil)) (q_globI (by rfl) x_LONGEST_NAME.choose_spec ⟨_, rfl⟩))))).pt (s_one (s_ret q_bl)) s_nil)
  (s_one (s_ret (q_all g n_all (b_cons (q_lc (own := [("letter", 1)]) g (i_any g (q_var (pv 0))) (blkOk_by (own := [("letter", 1)]) (N := N_is_name) (sc := defScope s_is_name) (by decide +kernel)) (fun _ _ _ _ _ _ _ g => (g_name (i := 1) g.nd)) (fun _ _ _ _ _ _ _ g => t_yes) (fun _ _ _ _ _ _ _ g => (v_cmp (c_inU g) (q_var (pv 1)) (q_globS (by rfl) x_LETTERS.choose_spec ⟨_, rfl⟩) (by with_unfolding_all rfl)))) b_nil)))))
theorem has_is_name (D : DefAt K mg "is_name" s_is_name) (n_all : mg "all" = none) (n_isinstance : mg "isinstance" = none) (n_len : mg "len" = none) (n_str : mg "str" = none) (x_LETTERS : ∃ t, mg "LETTERS" = some (.str v_LETTERS t)) (x_LONGEST_NAME : ∃ t, mg "LONGEST_NAME" = some (.int 8 t)) : HasD P w K mg base "is_name" ["value"] 1 (g_is_name C) := def_has D sc_is_name bd_is_name ar_is_name out_is_name (body_is_name n_all n_isinstance n_len n_str x_LETTERS x_LONGEST_NAME) (hq_is_name C)
abbrev s_are_vertices : Stmt := top 17
abbrev N_are_vertices : List Str := ["value", "name"]
theorem sc_are_vertices : FnScope N_are_vertices ["value"] (defScope s_are_vertices) := ⟨rfl, rfl, rfl, by decide +kernel, rfl, by decide +kernel, by decide +kernel⟩
theorem bd_are_vertices : BindsBy "are_vertices" "are_vertices" s_are_vertices ["value"] := fun _ _ _ _ _ _ us hl => match us, hl with | [_], _ => rfl
theorem ar_are_vertices : ∀ ss Q, g_are_vertices C ss Q → ss.length = 1 := by rintro _ Q ⟨v0, v1, c0, c1, rfl, h⟩; rfl
theorem out_are_vertices : Out (g_are_vertices C) := by
  rintro _ Q ⟨v0, v1, c0, c1, rfl, h⟩
  exact ⟨v0, v1, c0, c1, rfl, by first | exact ⟨h, rfl⟩ | exact fun a => ⟨h a, rfl⟩ | exact fun a b => ⟨h a b, rfl⟩ | exact fun a b c => ⟨h a b c, rfl⟩ | exact fun a b c d => ⟨h a b c d, rfl⟩ | exact fun a b c d e => ⟨h a b c d e, rfl⟩ | exact fun a b c d e f => ⟨h a b c d e f, rfl⟩ | exact fun a b c d e f i => ⟨h a b c d e f i, rfl⟩ | exact fun a b c d e f i j => ⟨h a b c d e f i j, rfl⟩ | exact fun a b c d e f i j k => ⟨h a b c d e f i j k, rfl⟩ | exact fun a b c d e f i j k l => ⟨h a b c d e f i j k l, rfl⟩⟩
theorem body_are_vertices (n_all : mg "all" = none) (n_len : mg "len" = none) (n_set : mg "set" = none) (x_MOST_VERTICES : ∃ t, mg "MOST_VERTICES" = some (.int 8 t)) (h_is_name : HasD P w K mg base "is_name" ["value"] 1 (g_is_name C)) (h_is_row : HasD P w K mg base "is_row" ["value"] 1 (g_is_row C)) : BodyOk P w K mg base N_are_vertices "are_vertices" s_are_vertices 1 (q_are_vertices C) := fun f H0 M0 iol cdv A outer s H E g =>
  (s_cons (s_if (t_or (t_not (t_val (q_callK g h_is_row (by decide) (a_cons (q_var (pv 0)) a_nil)))) (t_or (t_cmpQ (c_eq g) (q_lenU g n_len (b_cons (q_var (pv 0)) b_nil)) q_int) (t_or1 (t_cmpQ (c_gt g) (q_lenU g n_len (b_cons (q_var (pv 0)) b_nil)) (q_globI (by rfl) x_MOST_VERTICES.choose_spec ⟨_, rfl⟩))))).pt (s_one (s_ret q_bl)) s_nil)
  (s_one (s_ret (v_and (q_all g n_all (b_cons (q_lc (own := [("name", 1)]) g (i_any g (q_var (pv 0))) (blkOk_by (own := [("name", 1)]) (N := N_are_vertices) (sc := defScope s_are_vertices) (by decide +kernel)) (fun _ _ _ _ _ _ _ g => (g_name (i := 1) g.nd)) (fun _ _ _ _ _ _ _ g => t_yes) (fun _ _ _ _ _ _ _ g => (q_callK g h_is_name (by decide) (a_cons (q_var (pv 1)) a_nil)))) b_nil)) (v_one (v_cmp (c_eq g) (q_lenSet g n_len n_set (q_var (pv 0))) (q_lenU g n_len (b_cons (q_var (pv 0)) b_nil))))))))
theorem has_are_vertices (D : DefAt K mg "are_vertices" s_are_vertices) (n_all : mg "all" = none) (n_len : mg "len" = none) (n_set : mg "set" = none) (x_MOST_VERTICES : ∃ t, mg "MOST_VERTICES" = some (.int 8 t)) (h_is_name : HasD P w K mg base "is_name" ["value"] 1 (g_is_name C)) (h_is_row : HasD P w K mg base "is_row" ["value"] 1 (g_is_row C)) : HasD P w K mg base "are_vertices" ["value"] 2 (g_are_vertices C) := def_has D sc_are_vertices bd_are_vertices ar_are_vertices out_are_vertices (body_are_vertices n_all n_len n_set x_MOST_VERTICES h_is_name h_is_row) (hq_are_vertices C)
abbrev s_Graph : Stmt := inClass (top 13) 0
abbrev N_Graph : List Str := ["self", "vertices", "edges"]
theorem sc_Graph : FnScope N_Graph ["self", "vertices", "edges"] (defScope s_Graph) := ⟨rfl, rfl, rfl, by decide +kernel, rfl, by decide +kernel, by decide +kernel⟩
theorem bd_Graph : BindsBy "__init__" "Graph.__init__" s_Graph ["self", "vertices", "edges"] := fun _ _ _ _ _ _ us hl => match us, hl with | [_, _, _], _ => rfl
theorem ar_Graph : ∀ ss Q, g_Graph C ss Q → ss.length = 3 := by rintro _ Q ⟨v0, v1, v2, v3, c0, c1, c2, rfl, h⟩; rfl
theorem out_Graph : Out (g_Graph C) := by
  rintro _ Q ⟨v0, v1, v2, v3, c0, c1, c2, rfl, h⟩
  exact ⟨v0, v1, v2, v3, c0, c1, c2, rfl, by first | exact ⟨h, rfl⟩ | exact fun a => ⟨h a, rfl⟩ | exact fun a b => ⟨h a b, rfl⟩ | exact fun a b c => ⟨h a b c, rfl⟩ | exact fun a b c d => ⟨h a b c d, rfl⟩ | exact fun a b c d e => ⟨h a b c d e, rfl⟩ | exact fun a b c d e f => ⟨h a b c d e f, rfl⟩ | exact fun a b c d e f i => ⟨h a b c d e f i, rfl⟩ | exact fun a b c d e f i j => ⟨h a b c d e f i j, rfl⟩ | exact fun a b c d e f i j k => ⟨h a b c d e f i j k, rfl⟩ | exact fun a b c d e f i j k l => ⟨h a b c d e f i j k l, rfl⟩⟩
theorem body_Graph (n_sorted : mg "sorted" = none) (n_tuple : mg "tuple" = none) (cls : Cls K C) (na_edges : NoAttr K C "edges") (na_vertices : NoAttr K C "vertices") (h_are_edges : HasD P w K mg base "are_edges" ["vertices", "value"] 3 (g_are_edges C)) (h_are_vertices : HasD P w K mg base "are_vertices" ["value"] 2 (g_are_vertices C)) : BodyOk P w K mg base N_Graph "Graph.__init__" s_Graph 3 (q_Graph C) := fun f H0 M0 iol cdv A outer s H E g =>
  (s_cons (s_if (t_not (t_val (q_callK g h_are_vertices (by decide) (a_cons (q_var (pv 1)) a_nil)))) (s_one s_never) s_nil)
  (s_cons (s_if (t_not (t_val (q_callK g h_are_edges (by decide) (a_cons (q_var (pv 1)) (a_cons (q_var (pv 2)) a_nil))))) (s_one s_never) s_nil)
  (s_cons (s_fldT g cls na_vertices n_tuple (pv 0) (q_var (pv 1)))
  (s_one (s_fld (C := C) g cls na_edges (pv 0) (q_tuple g n_tuple (b_cons (q_sortedU g n_sorted (b_cons (q_var (pv 2)) b_nil)) b_nil)))))))
theorem has_Graph (D : ∃ f fd, Fun K "__init__" "Graph.__init__" s_Graph f fd ∧ Mk K C f) (hm : mg "Graph" = some (.ref C)) (n_sorted : mg "sorted" = none) (n_tuple : mg "tuple" = none) (cls : Cls K C) (na_edges : NoAttr K C "edges") (na_vertices : NoAttr K C "vertices") (h_are_edges : HasD P w K mg base "are_edges" ["vertices", "value"] 3 (g_are_edges C)) (h_are_vertices : HasD P w K mg base "are_vertices" ["value"] 2 (g_are_vertices C)) : HasMk P w K mg base "Graph" C ["self", "vertices", "edges"] 4 (g_Graph C) := mk_has D hm sc_Graph bd_Graph ar_Graph out_Graph (body_Graph n_sorted n_tuple cls na_edges na_vertices h_are_edges h_are_vertices) (hq_Graph C)
abbrev s__law_next : Stmt := top 41
abbrev N__law_next : List Str := ["_law_source", "_law_many", "_law_found", "_law_prime", "_law_number"]
theorem sc__law_next : FnScope N__law_next ["_law_source", "_law_many"] (defScope s__law_next) := ⟨rfl, rfl, rfl, by decide +kernel, rfl, by decide +kernel, by decide +kernel⟩
theorem bd__law_next : BindsBy "_law_next" "_law_next" s__law_next ["_law_source", "_law_many"] := fun _ _ _ _ _ _ us hl => match us, hl with | [_, _], _ => rfl
theorem ar__law_next : ∀ ss Q, g__law_next C ss Q → ss.length = 2 := by rintro _ Q ⟨v0, v1, c0, rfl, h⟩; rfl
theorem out__law_next : Out (g__law_next C) := by
  rintro _ Q ⟨v0, v1, c0, rfl, h⟩
  exact ⟨v0, v1, c0, rfl, by first | exact ⟨h, rfl⟩ | exact fun a => ⟨h a, rfl⟩ | exact fun a b => ⟨h a b, rfl⟩ | exact fun a b c => ⟨h a b c, rfl⟩ | exact fun a b c d => ⟨h a b c d, rfl⟩ | exact fun a b c d e => ⟨h a b c d e, rfl⟩ | exact fun a b c d e f => ⟨h a b c d e f, rfl⟩ | exact fun a b c d e f i => ⟨h a b c d e f i, rfl⟩ | exact fun a b c d e f i j => ⟨h a b c d e f i j, rfl⟩ | exact fun a b c d e f i j k => ⟨h a b c d e f i j k, rfl⟩ | exact fun a b c d e f i j k l => ⟨h a b c d e f i j k l, rfl⟩⟩
theorem body__law_next  : BodyOk P w K mg base N__law_next "_law_next" s__law_next 0 (q__law_next C) := fun f H0 M0 iol cdv A outer s H E g =>
  (s_cons (s_if (t_cmpQ (c_gt g) (q_ixU g (q_var (pv 0)) q_int) q_int) (s_cons (s_set (i := 2) g (q_mod (q_ixU g (q_var (pv 0)) q_int) (q_var (pv 1))))
  (s_cons (s_setU g (q_div (q_ixU g (q_var (pv 0)) q_int) (q_var (pv 1))) (pv 0) q_int)
  (s_one (s_ret (q_var (pv 2)))))) s_nil)
  (s_cons (s_setU g (q_add g (q_ixU g (q_var (pv 0)) q_int) q_int) (pv 0) q_int)
  (s_cons (s_set (i := 3) g q_int)
  (s_cons (s_set (i := 4) g (q_mod (q_add g (q_add g (q_ixU g (q_var (pv 0)) q_int) (q_mul q_int (q_ixU g (q_var (pv 0)) q_int))) q_int) (q_var (pv 3))))
  (s_cons (s_set (i := 4) g (q_mod (q_mul (q_var (pv 4)) q_int) (q_var (pv 3))))
  (s_cons (s_set (i := 4) g (q_mod (q_mul (q_var (pv 4)) (q_add g (q_div (q_var (pv 4)) q_int) q_int)) (q_var (pv 3))))
  (s_cons (s_set (i := 4) g (q_mod (q_mul (q_var (pv 4)) (q_add g (q_div (q_var (pv 4)) q_int) q_int)) q_int))
  (s_one (s_ret (q_mod (q_div (q_var (pv 4)) q_int) (q_var (pv 1))))))))))))
theorem has__law_next (D : DefAt K mg "_law_next" s__law_next)  : HasD P w K mg base "_law_next" ["_law_source", "_law_many"] 1 (g__law_next C) := def_has D sc__law_next bd__law_next ar__law_next out__law_next (body__law_next ) (hq__law_next C)
abbrev s__law_one : Stmt := top 42
abbrev N__law_one : List Str := ["_law_source", "_law_some"]
theorem sc__law_one : FnScope N__law_one ["_law_source", "_law_some"] (defScope s__law_one) := ⟨rfl, rfl, rfl, by decide +kernel, rfl, by decide +kernel, by decide +kernel⟩
theorem bd__law_one : BindsBy "_law_one" "_law_one" s__law_one ["_law_source", "_law_some"] := fun _ _ _ _ _ _ us hl => match us, hl with | [_, _], _ => rfl
theorem ar__law_one : ∀ ss Q, g__law_one C ss Q → ss.length = 2 := by rintro _ Q ⟨v0, v1, c0, rfl, h⟩; rfl
theorem out__law_one : Out (g__law_one C) := by
  rintro _ Q ⟨v0, v1, c0, rfl, h⟩
  exact ⟨v0, v1, c0, rfl, by first | exact ⟨h, rfl⟩ | exact fun a => ⟨h a, rfl⟩ | exact fun a b => ⟨h a b, rfl⟩ | exact fun a b c => ⟨h a b c, rfl⟩ | exact fun a b c d => ⟨h a b c d, rfl⟩ | exact fun a b c d e => ⟨h a b c d e, rfl⟩ | exact fun a b c d e f => ⟨h a b c d e f, rfl⟩ | exact fun a b c d e f i => ⟨h a b c d e f i, rfl⟩ | exact fun a b c d e f i j => ⟨h a b c d e f i j, rfl⟩ | exact fun a b c d e f i j k => ⟨h a b c d e f i j k, rfl⟩ | exact fun a b c d e f i j k l => ⟨h a b c d e f i j k l, rfl⟩⟩
theorem body__law_one (n_len : mg "len" = none) (h__law_next : HasD P w K mg base "_law_next" ["_law_source", "_law_many"] 1 (g__law_next C)) : BodyOk P w K mg base N__law_one "_law_one" s__law_one 1 (q__law_one C) := fun f H0 M0 iol cdv A outer s H E g =>
  (s_one (s_ret (q_ixU g (q_var (pv 1)) (q_callH g h__law_next (by decide) (l_lend (pv 0) (l_keep (q_lenU g n_len (b_cons (q_var (pv 1)) b_nil)) l_nil))))))
theorem has__law_one (D : DefAt K mg "_law_one" s__law_one) (n_len : mg "len" = none) (h__law_next : HasD P w K mg base "_law_next" ["_law_source", "_law_many"] 1 (g__law_next C)) : HasD P w K mg base "_law_one" ["_law_source", "_law_some"] 2 (g__law_one C) := def_has D sc__law_one bd__law_one ar__law_one out__law_one (body__law_one n_len h__law_next) (hq__law_one C)
abbrev s__law_bad_edge : Stmt := top 46
abbrev N__law_bad_edge : List Str := ["_law_source", "_law_names", "_law_edges", "_law_one_here", "_law_other", "_law_missing", "_law_some"]
theorem sc__law_bad_edge : FnScope N__law_bad_edge ["_law_source", "_law_names", "_law_edges"] (defScope s__law_bad_edge) := ⟨rfl, rfl, rfl, by decide +kernel, rfl, by decide +kernel, by decide +kernel⟩
theorem bd__law_bad_edge : BindsBy "_law_bad_edge" "_law_bad_edge" s__law_bad_edge ["_law_source", "_law_names", "_law_edges"] := fun _ _ _ _ _ _ us hl => match us, hl with | [_, _, _], _ => rfl
theorem ar__law_bad_edge : ∀ ss Q, g__law_bad_edge C ss Q → ss.length = 3 := by rintro _ Q ⟨v0, v1, v2, c0, rfl, h⟩; rfl
theorem out__law_bad_edge : Out (g__law_bad_edge C) := by
  rintro _ Q ⟨v0, v1, v2, c0, rfl, h⟩
  exact ⟨v0, v1, v2, c0, rfl, by first | exact ⟨h, rfl⟩ | exact fun a => ⟨h a, rfl⟩ | exact fun a b => ⟨h a b, rfl⟩ | exact fun a b c => ⟨h a b c, rfl⟩ | exact fun a b c d => ⟨h a b c d, rfl⟩ | exact fun a b c d e => ⟨h a b c d e, rfl⟩ | exact fun a b c d e f => ⟨h a b c d e f, rfl⟩ | exact fun a b c d e f i => ⟨h a b c d e f i, rfl⟩ | exact fun a b c d e f i j => ⟨h a b c d e f i j, rfl⟩ | exact fun a b c d e f i j k => ⟨h a b c d e f i j k, rfl⟩ | exact fun a b c d e f i j k l => ⟨h a b c d e f i j k l, rfl⟩⟩
theorem body__law_bad_edge (n_zip : mg "zip" = none) (h__law_one : HasD P w K mg base "_law_one" ["_law_source", "_law_some"] 2 (g__law_one C)) : BodyOk P w K mg base N__law_bad_edge "_law_bad_edge" s__law_bad_edge 2 (q__law_bad_edge C) := fun f H0 M0 iol cdv A outer s H E g =>
  (s_cons (s_setLc (i := 5) (own := [("_law_one_here", 3), ("_law_other", 4)]) g (sw_true rfl rfl rfl (by decide +kernel)) (i_zip g n_zip (a_cons (q_var (pv 1)) (a_cons (q_sl g (q_var (pv 1)) (o_some q_int) o_none) a_nil))) (blkOk_by (own := [("_law_one_here", 3), ("_law_other", 4)]) (N := N__law_bad_edge) (sc := defScope s__law_bad_edge) (by decide +kernel)) (fun _ _ _ _ _ _ _ g => (g_tup g (g_cons (g_name (i := 3) g.nd) (g_cons (g_name (i := 4) g.nd) g_nil)))) (fun _ _ _ _ _ _ _ g => (t_one (t_cmpQ (c_notIn g) (q_tup (a_cons (q_var (pv 3)) (a_cons (q_var (pv 4)) a_nil))) (q_var (pv 2)) (by with_unfolding_all rfl)))) (fun _ _ _ _ _ _ _ g => (q_tup (a_cons (q_var (pv 3)) (a_cons (q_var (pv 4)) a_nil)))))
  (s_cons (s_set (i := 6) g (q_lst (a_cons q_non (a_cons q_int (a_cons q_str (a_cons (q_tup a_nil) (a_cons (q_lst a_nil) (a_cons (q_frz q_dnil) (a_cons (q_tup (a_cons q_str (a_cons q_str a_nil))) (a_cons (q_tup (a_cons q_str (a_cons q_str a_nil))) (a_cons (q_tup (a_cons (q_ixU g (q_var (pv 1)) q_int) a_nil)) (a_cons (q_ixU g (q_var (pv 1)) q_int) (a_cons (q_tup (a_cons (q_frz q_dnil) (a_cons (q_lst a_nil) a_nil))) a_nil)))))))))))))
  (s_cons (s_expr (q_append (pv 6) (a_cons (q_lst (a_cons (q_ixU g (q_var (pv 1)) q_int) (a_cons (q_ixU g (q_var (pv 1)) (q_neg q_int)) a_nil))) a_nil)))
  (s_cons (s_for (vs := [3, 4]) PassesOwn.never g (i_any g (q_sl g (q_var (pv 2)) o_none (o_some q_int))) (g_tup g (g_cons (g_name (i := 3) g.nd) (g_cons (g_name (i := 4) g.nd) g_nil))) (s_one (s_set (i := 6) g (q_add g (q_var (pv 6)) (q_lst (a_cons (q_tup (a_cons (q_var (pv 4)) (a_cons (q_var (pv 3)) a_nil))) (a_cons (q_lst (a_cons (q_var (pv 3)) (a_cons (q_var (pv 4)) a_nil))) (a_cons (q_tup (a_cons (q_var (pv 3)) (a_cons (q_var (pv 4)) (a_cons (q_var (pv 3)) a_nil)))) (a_cons (q_tup (a_cons (q_var (pv 3)) (a_cons (q_var (pv 3)) a_nil))) a_nil)))))))))
  (s_one (s_ret (q_callH g h__law_one (by decide) (l_lend (pv 0) (l_keep (q_add g (q_var (pv 6)) (q_var (pv 5))) l_nil)))))))))
theorem has__law_bad_edge (D : DefAt K mg "_law_bad_edge" s__law_bad_edge) (n_zip : mg "zip" = none) (h__law_one : HasD P w K mg base "_law_one" ["_law_source", "_law_some"] 2 (g__law_one C)) : HasD P w K mg base "_law_bad_edge" ["_law_source", "_law_names", "_law_edges"] 3 (g__law_bad_edge C) := def_has D sc__law_bad_edge bd__law_bad_edge ar__law_bad_edge out__law_bad_edge (body__law_bad_edge n_zip h__law_one) (hq__law_bad_edge C)
abbrev s__law_cell_at : Stmt := top 39
abbrev N__law_cell_at : List Str := ["_law_script", "_law_k"]
theorem sc__law_cell_at : FnScope N__law_cell_at ["_law_script", "_law_k"] (defScope s__law_cell_at) := ⟨rfl, rfl, rfl, by decide +kernel, rfl, by decide +kernel, by decide +kernel⟩
theorem bd__law_cell_at : BindsBy "_law_cell_at" "_law_cell_at" s__law_cell_at ["_law_script", "_law_k"] := fun _ _ _ _ _ _ us hl => match us, hl with | [_, _], _ => rfl
theorem ar__law_cell_at : ∀ ss Q, g__law_cell_at C ss Q → ss.length = 2 := by rintro _ Q ⟨v0, v1, rfl, h⟩; rfl
theorem out__law_cell_at : Out (g__law_cell_at C) := by
  rintro _ Q ⟨v0, v1, rfl, h⟩
  exact ⟨v0, v1, rfl, by first | exact ⟨h, rfl⟩ | exact fun a => ⟨h a, rfl⟩ | exact fun a b => ⟨h a b, rfl⟩ | exact fun a b c => ⟨h a b c, rfl⟩ | exact fun a b c d => ⟨h a b c d, rfl⟩ | exact fun a b c d e => ⟨h a b c d e, rfl⟩ | exact fun a b c d e f => ⟨h a b c d e f, rfl⟩ | exact fun a b c d e f i => ⟨h a b c d e f i, rfl⟩ | exact fun a b c d e f i j => ⟨h a b c d e f i j, rfl⟩ | exact fun a b c d e f i j k => ⟨h a b c d e f i j k, rfl⟩ | exact fun a b c d e f i j k l => ⟨h a b c d e f i j k l, rfl⟩⟩
theorem body__law_cell_at (n_len : mg "len" = none) : BodyOk P w K mg base N__law_cell_at "_law_cell_at" s__law_cell_at 0 (q__law_cell_at C) := fun f H0 M0 iol cdv A outer s H E g =>
  (s_cons (s_if (t_cmpQ (c_lt g) (q_var (pv 1)) (q_lenU g n_len (b_cons (q_var (pv 0)) b_nil))) (s_one (s_ret (q_ixU g (q_var (pv 0)) (q_var (pv 1))))) s_nil)
  (s_one (s_ret q_int)))
theorem has__law_cell_at (D : DefAt K mg "_law_cell_at" s__law_cell_at) (n_len : mg "len" = none) : HasD P w K mg base "_law_cell_at" ["_law_script", "_law_k"] 1 (g__law_cell_at C) := def_has D sc__law_cell_at bd__law_cell_at ar__law_cell_at out__law_cell_at (body__law_cell_at n_len) (hq__law_cell_at C)
abbrev s__law_mixed : Stmt := top 43
abbrev N__law_mixed : List Str := ["_law_source", "_law_some", "_law_left", "_law_found"]
theorem sc__law_mixed : FnScope N__law_mixed ["_law_source", "_law_some"] (defScope s__law_mixed) := ⟨rfl, rfl, rfl, by decide +kernel, rfl, by decide +kernel, by decide +kernel⟩
theorem bd__law_mixed : BindsBy "_law_mixed" "_law_mixed" s__law_mixed ["_law_source", "_law_some"] := fun _ _ _ _ _ _ us hl => match us, hl with | [_, _], _ => rfl
theorem ar__law_mixed : ∀ ss Q, g__law_mixed C ss Q → ss.length = 2 := by rintro _ Q ⟨v0, v1, c0, rfl, h⟩; rfl
theorem out__law_mixed : Out (g__law_mixed C) := by
  rintro _ Q ⟨v0, v1, c0, rfl, h⟩
  exact ⟨v0, v1, c0, rfl, by first | exact ⟨h, rfl⟩ | exact fun a => ⟨h a, rfl⟩ | exact fun a b => ⟨h a b, rfl⟩ | exact fun a b c => ⟨h a b c, rfl⟩ | exact fun a b c d => ⟨h a b c d, rfl⟩ | exact fun a b c d e => ⟨h a b c d e, rfl⟩ | exact fun a b c d e f => ⟨h a b c d e f, rfl⟩ | exact fun a b c d e f i => ⟨h a b c d e f i, rfl⟩ | exact fun a b c d e f i j => ⟨h a b c d e f i j, rfl⟩ | exact fun a b c d e f i j k => ⟨h a b c d e f i j k, rfl⟩ | exact fun a b c d e f i j k l => ⟨h a b c d e f i j k l, rfl⟩⟩
theorem body__law_mixed (n_len : mg "len" = none) (n_list : mg "list" = none) (h__law_next : HasD P w K mg base "_law_next" ["_law_source", "_law_many"] 1 (g__law_next C)) : BodyOk P w K mg base N__law_mixed "_law_mixed" s__law_mixed 1 (q__law_mixed C) := fun f H0 M0 iol cdv A outer s H E g =>
  (s_cons (s_set (i := 2) g (q_listU g n_list (b_cons (q_var (pv 1)) b_nil)))
  (s_cons (s_set (i := 3) g (q_lst a_nil))
  (s_cons (s_while PassesOwn.never (t_cmpQ (c_ne g) (q_var (pv 2)) (q_lst a_nil)) (s_one (s_expr (q_append (pv 3) (a_cons (q_pop g (pv 2) (a_cons (q_callH g h__law_next (by decide) (l_lend (pv 0) (l_keep (q_lenU g n_len (b_cons (q_var (pv 2)) b_nil)) l_nil))) a_nil)) a_nil)))))
  (s_one (s_ret (q_var (pv 3)))))))
theorem has__law_mixed (D : DefAt K mg "_law_mixed" s__law_mixed) (n_len : mg "len" = none) (n_list : mg "list" = none) (h__law_next : HasD P w K mg base "_law_next" ["_law_source", "_law_many"] 1 (g__law_next C)) : HasD P w K mg base "_law_mixed" ["_law_source", "_law_some"] 2 (g__law_mixed C) := def_has D sc__law_mixed bd__law_mixed ar__law_mixed out__law_mixed (body__law_mixed n_len n_list h__law_next) (hq__law_mixed C)
abbrev s__law_graph : Stmt := top 44
abbrev N__law_graph : List Str := ["_law_source", "_law_most", "_law_names", "_law_edges", "_law_name", "_law_end", "_law_limit"]
theorem sc__law_graph : FnScope N__law_graph ["_law_source", "_law_most"] (defScope s__law_graph) := ⟨rfl, rfl, rfl, by decide +kernel, rfl, by decide +kernel, by decide +kernel⟩
theorem bd__law_graph : BindsBy "_law_graph" "_law_graph" s__law_graph ["_law_source", "_law_most"] := fun _ _ _ _ _ _ us hl => match us, hl with | [_, _], _ => rfl
theorem ar__law_graph : ∀ ss Q, g__law_graphC C ss Q → ss.length = 2 := by rintro _ Q ⟨v0, v1, c0, rfl, h⟩; rfl
theorem out__law_graph : Out (g__law_graphC C) := by
  rintro _ Q ⟨v0, v1, c0, rfl, h⟩
  exact ⟨v0, v1, c0, rfl, by first | exact ⟨h, rfl⟩ | exact fun a => ⟨h a, rfl⟩ | exact fun a b => ⟨h a b, rfl⟩ | exact fun a b c => ⟨h a b c, rfl⟩ | exact fun a b c d => ⟨h a b c d, rfl⟩ | exact fun a b c d e => ⟨h a b c d e, rfl⟩ | exact fun a b c d e f => ⟨h a b c d e f, rfl⟩ | exact fun a b c d e f i => ⟨h a b c d e f i, rfl⟩ | exact fun a b c d e f i j => ⟨h a b c d e f i j, rfl⟩ | exact fun a b c d e f i j k => ⟨h a b c d e f i j k, rfl⟩ | exact fun a b c d e f i j k l => ⟨h a b c d e f i j k l, rfl⟩⟩
theorem body__law_graph (n_len : mg "len" = none) (n_min : mg "min" = none) (h__law_mixed : HasD P w K mg base "_law_mixed" ["_law_source", "_law_some"] 2 (g__law_mixed C)) (h__law_next : HasD P w K mg base "_law_next" ["_law_source", "_law_many"] 1 (g__law_next C)) (h__law_one : HasD P w K mg base "_law_one" ["_law_source", "_law_some"] 2 (g__law_one C)) : BodyOk P w K mg base N__law_graph "_law_graph" s__law_graph 2 (q__law_graphC C) := fun f H0 M0 iol cdv A outer s H E g =>
  (s_cons (s_set (i := 2) g (q_sl g (q_callH g h__law_mixed (by decide) (l_lend (pv 0) (l_keep (q_lst (a_cons q_str (a_cons q_str (a_cons q_str (a_cons q_str (a_cons q_str (a_cons q_str (a_cons q_str (a_cons q_str a_nil))))))))) l_nil))) o_none (o_some (q_add g q_int (q_callH g h__law_next (by decide) (l_lend (pv 0) (l_keep (q_var (pv 1)) l_nil)))))))
  (s_cons (s_set (i := 3) g (q_lst a_nil))
  (s_cons (s_for (vs := [4]) PassesOwn.never g (i_any g (q_var (pv 2))) (g_name (i := 4) g.nd) (s_one (s_expr (q_extend (pv 3) (a_cons (q_lc (own := [("_law_end", 5)]) g (i_any g (q_var (pv 2))) (blkOk_by (own := [("_law_end", 5)]) (N := N__law_graph) (sc := defScope s__law_graph) (by decide +kernel)) (fun _ _ _ _ _ _ _ g => (g_name (i := 5) g.nd)) (fun _ _ _ _ _ _ _ g => (t_one (t_cmpQ (c_lt g) (q_var (pv 4)) (q_var (pv 5))))) (fun _ _ _ _ _ _ _ g => (q_tup (a_cons (q_var (pv 4)) (a_cons (q_var (pv 5)) a_nil))))) a_nil)))))
  (s_cons (s_set (i := 3) g (q_callH g h__law_mixed (by decide) (l_lend (pv 0) (l_keep (q_var (pv 3)) l_nil))))
  (s_cons (s_set (i := 6) g (q_callH g h__law_one (by decide) (l_lend (pv 0) (l_keep (q_lst (a_cons (q_lenU g n_len (b_cons (q_var (pv 3)) b_nil)) (a_cons (q_add g (q_lenU g n_len (b_cons (q_var (pv 2)) b_nil)) q_int) (a_cons (q_mul q_int (q_lenU g n_len (b_cons (q_var (pv 2)) b_nil))) (a_cons (q_callH g h__law_next (by decide) (l_lend (pv 0) (l_keep (q_add g (q_lenU g n_len (b_cons (q_var (pv 3)) b_nil)) q_int) l_nil))) a_nil))))) l_nil))))
  (s_one (s_ret (q_tup (a_cons (q_var (pv 2)) (a_cons (q_sl g (q_var (pv 3)) o_none (o_some (q_min2 g n_min (a_cons (q_var (pv 6)) (a_cons q_int a_nil))))) a_nil))))))))))
theorem has__law_graph (D : DefAt K mg "_law_graph" s__law_graph) (n_len : mg "len" = none) (n_min : mg "min" = none) (h__law_mixed : HasD P w K mg base "_law_mixed" ["_law_source", "_law_some"] 2 (g__law_mixed C)) (h__law_next : HasD P w K mg base "_law_next" ["_law_source", "_law_many"] 1 (g__law_next C)) (h__law_one : HasD P w K mg base "_law_one" ["_law_source", "_law_some"] 2 (g__law_one C)) : HasD P w K mg base "_law_graph" ["_law_source", "_law_most"] 3 (g__law_graphC C) := def_has D sc__law_graph bd__law_graph ar__law_graph out__law_graph (body__law_graph n_len n_min h__law_mixed h__law_next h__law_one) (hq__law_graphC C)
abbrev s_are_opposite : Stmt := top 35
abbrev N_are_opposite : List Str := ["one", "other"]
theorem sc_are_opposite : FnScope N_are_opposite ["one", "other"] (defScope s_are_opposite) := ⟨rfl, rfl, rfl, by decide +kernel, rfl, by decide +kernel, by decide +kernel⟩
theorem bd_are_opposite : BindsBy "are_opposite" "are_opposite" s_are_opposite ["one", "other"] := fun _ _ _ _ _ _ us hl => match us, hl with | [_, _], _ => rfl
theorem ar_are_opposite : ∀ ss Q, g_are_opposite C ss Q → ss.length = 2 := by rintro _ Q ⟨v0, v1, rfl, h⟩; rfl
theorem out_are_opposite : Out (g_are_opposite C) := by
  rintro _ Q ⟨v0, v1, rfl, h⟩
  exact ⟨v0, v1, rfl, by first | exact ⟨h, rfl⟩ | exact fun a => ⟨h a, rfl⟩ | exact fun a b => ⟨h a b, rfl⟩ | exact fun a b c => ⟨h a b c, rfl⟩ | exact fun a b c d => ⟨h a b c d, rfl⟩ | exact fun a b c d e => ⟨h a b c d e, rfl⟩ | exact fun a b c d e f => ⟨h a b c d e f, rfl⟩ | exact fun a b c d e f i => ⟨h a b c d e f i, rfl⟩ | exact fun a b c d e f i j => ⟨h a b c d e f i j, rfl⟩ | exact fun a b c d e f i j k => ⟨h a b c d e f i j k, rfl⟩ | exact fun a b c d e f i j k l => ⟨h a b c d e f i j k l, rfl⟩⟩
theorem body_are_opposite  : BodyOk P w K mg base N_are_opposite "are_opposite" s_are_opposite 0 (q_are_opposite C) := fun f H0 M0 iol cdv A outer s H E g =>
  (s_one (s_ret (v_or (v_chain (c_lt g) (c_lt g) (q_var (pv 0)) q_int (q_var (pv 1))) (v_one (v_chain (c_lt g) (c_lt g) (q_var (pv 1)) q_int (q_var (pv 0)))))))
theorem has_are_opposite (D : DefAt K mg "are_opposite" s_are_opposite)  : HasD P w K mg base "are_opposite" ["one", "other"] 1 (g_are_opposite C) := def_has D sc_are_opposite bd_are_opposite ar_are_opposite out_are_opposite (body_are_opposite ) (hq_are_opposite C)
abbrev s_hits : Stmt := top 36
abbrev N_hits : List Str := ["start", "end", "path", "found", "sides", "at", "corner", "here", "there"]
theorem sc_hits : FnScope N_hits ["start", "end", "path"] (defScope s_hits) := ⟨rfl, rfl, rfl, by decide +kernel, rfl, by decide +kernel, by decide +kernel⟩
theorem bd_hits : BindsBy "hits" "hits" s_hits ["start", "end", "path"] := fun _ _ _ _ _ _ us hl => match us, hl with | [_, _, _], _ => rfl
theorem ar_hits : ∀ ss Q, g_hits C ss Q → ss.length = 3 := by rintro _ Q ⟨v0, v1, v2, c0, c1, rfl, h⟩; rfl
theorem out_hits : Out (g_hits C) := by
  rintro _ Q ⟨v0, v1, v2, c0, c1, rfl, h⟩
  exact ⟨v0, v1, v2, c0, c1, rfl, by first | exact ⟨h, rfl⟩ | exact fun a => ⟨h a, rfl⟩ | exact fun a b => ⟨h a b, rfl⟩ | exact fun a b c => ⟨h a b c, rfl⟩ | exact fun a b c d => ⟨h a b c d, rfl⟩ | exact fun a b c d e => ⟨h a b c d e, rfl⟩ | exact fun a b c d e f => ⟨h a b c d e f, rfl⟩ | exact fun a b c d e f i => ⟨h a b c d e f i, rfl⟩ | exact fun a b c d e f i j => ⟨h a b c d e f i j, rfl⟩ | exact fun a b c d e f i j k => ⟨h a b c d e f i j k, rfl⟩ | exact fun a b c d e f i j k l => ⟨h a b c d e f i j k l, rfl⟩⟩
theorem body_hits (n_enumerate : mg "enumerate" = none) (h_are_opposite : HasD P w K mg base "are_opposite" ["one", "other"] 1 (g_are_opposite C)) (h_offsets : HasD P w K mg base "offsets" ["start", "end", "places"] 1 (g_offsets C)) : BodyOk P w K mg base N_hits "hits" s_hits 1 (q_hits C) := fun f H0 M0 iol cdv A outer s H E g =>
  (s_cons (s_set (i := 3) g q_int)
  (s_cons (s_set (i := 4) g (q_callK g h_offsets (by decide) (a_cons (q_var (pv 0)) (a_cons (q_var (pv 1)) (a_cons (q_var (pv 2)) a_nil)))))
  (s_cons (s_for (vs := [5, 6]) PassesOwn.never g (i_enum g n_enumerate (a_cons (q_sl g (q_var (pv 2)) (o_some q_int) o_none) a_nil)) (g_tup g (g_cons (g_name (i := 5) g.nd) (g_cons (g_name (i := 6) g.nd) g_nil))) (s_one (s_if (t_val (q_callK g h_are_opposite (by decide) (a_cons (q_ixU g (q_var (pv 4)) (q_var (pv 5))) (a_cons (q_ixU g (q_var (pv 4)) (q_add g (q_var (pv 5)) q_int)) a_nil)))) (s_cons (s_asg (vs := [7, 8]) (q_callK g h_offsets (by decide) (a_cons (q_ixU g (q_var (pv 2)) (q_var (pv 5))) (a_cons (q_var (pv 6)) (a_cons (q_lst (a_cons (q_var (pv 0)) (a_cons (q_var (pv 1)) a_nil))) a_nil)))) (g_tup g (g_cons (g_name (i := 7) g.nd) (g_cons (g_name (i := 8) g.nd) g_nil))))
  (s_one (s_if (t_val (q_callK g h_are_opposite (by decide) (a_cons (q_var (pv 7)) (a_cons (q_var (pv 8)) a_nil)))) (s_one (s_augAdd (i := 3) g q_int)) s_nil))) s_nil)))
  (s_one (s_ret (q_var (pv 3)))))))
theorem has_hits (D : DefAt K mg "hits" s_hits) (n_enumerate : mg "enumerate" = none) (h_are_opposite : HasD P w K mg base "are_opposite" ["one", "other"] 1 (g_are_opposite C)) (h_offsets : HasD P w K mg base "offsets" ["start", "end", "places"] 1 (g_offsets C)) : HasD P w K mg base "hits" ["start", "end", "path"] 2 (g_hits C) := def_has D sc_hits bd_hits ar_hits out_hits (body_hits n_enumerate h_are_opposite h_offsets) (hq_hits C)
abbrev s_crossings : Stmt := top 37
abbrev N_crossings : List Str := ["drawing", "one", "other", "first", "second", "start", "end"]
theorem sc_crossings : FnScope N_crossings ["drawing", "one", "other"] (defScope s_crossings) := ⟨rfl, rfl, rfl, by decide +kernel, rfl, by decide +kernel, by decide +kernel⟩
theorem bd_crossings : BindsBy "crossings" "crossings" s_crossings ["drawing", "one", "other"] := fun _ _ _ _ _ _ us hl => match us, hl with | [_, _, _], _ => rfl
theorem ar_crossings : ∀ ss Q, g_crossings C Cd ss Q → ss.length = 3 := by rintro _ Q ⟨v0, v1, v2, v3, v4, v5, c0, c1, c2, c3, c4, rfl, h⟩; rfl
theorem out_crossings : Out (g_crossings C Cd) := by
  rintro _ Q ⟨v0, v1, v2, v3, v4, v5, c0, c1, c2, c3, c4, rfl, h⟩
  exact ⟨v0, v1, v2, v3, v4, v5, c0, c1, c2, c3, c4, rfl, by first | exact ⟨h, rfl⟩ | exact fun a => ⟨h a, rfl⟩ | exact fun a b => ⟨h a b, rfl⟩ | exact fun a b c => ⟨h a b c, rfl⟩ | exact fun a b c d => ⟨h a b c d, rfl⟩ | exact fun a b c d e => ⟨h a b c d e, rfl⟩ | exact fun a b c d e f => ⟨h a b c d e f, rfl⟩ | exact fun a b c d e f i => ⟨h a b c d e f i, rfl⟩ | exact fun a b c d e f i j => ⟨h a b c d e f i j, rfl⟩ | exact fun a b c d e f i j k => ⟨h a b c d e f i j k, rfl⟩ | exact fun a b c d e f i j k l => ⟨h a b c d e f i j k l, rfl⟩⟩
theorem body_crossings (n_sum : mg "sum" = none) (n_zip : mg "zip" = none) (clsD : Cls K Cd) (naD_graph : NoAttr K Cd "graph") (naD_lines : NoAttr K Cd "lines") (naD_points : NoAttr K Cd "points") (h_hits : HasD P w K mg base "hits" ["start", "end", "path"] 2 (g_hits C)) (h_is_edge : HasD P w K mg base "is_edge" ["graph", "value"] 3 (g_is_edge C)) (h_path_of : HasD P w K mg base "path_of" ["points", "lines", "edge"] 1 (g_path_of C)) : BodyOk P w K mg base N_crossings "crossings" s_crossings 3 (q_crossings C Cd) := fun f H0 M0 iol cdv A outer s H E g =>
  (s_cons (s_if (t_not (t_val (q_callK g h_is_edge (by decide) (a_cons (q_fld (f := "graph") g clsD naD_graph (q_var (pv 0))) (a_cons (q_var (pv 1)) a_nil))))) (s_one s_never) s_nil)
  (s_cons (s_if (t_or (t_not (t_val (q_callK g h_is_edge (by decide) (a_cons (q_fld (f := "graph") g clsD naD_graph (q_var (pv 0))) (a_cons (q_var (pv 2)) a_nil))))) (t_or1 (t_cmpQ (c_eq g) (q_var (pv 1)) (q_var (pv 2))))).pt (s_one s_never) s_nil)
  (s_cons (s_set (i := 3) g (q_callK g h_path_of (by decide) (a_cons (q_fld (f := "points") g clsD naD_points (q_var (pv 0))) (a_cons (q_fld (f := "lines") g clsD naD_lines (q_var (pv 0))) (a_cons (q_var (pv 1)) a_nil)))))
  (s_cons (s_set (i := 4) g (q_callK g h_path_of (by decide) (a_cons (q_fld (f := "points") g clsD naD_points (q_var (pv 0))) (a_cons (q_fld (f := "lines") g clsD naD_lines (q_var (pv 0))) (a_cons (q_var (pv 2)) a_nil)))))
  (s_one (s_ret (q_sum g n_sum (b_cons (q_lc (own := [("start", 5), ("end", 6)]) g (i_zip g n_zip (a_cons (q_var (pv 3)) (a_cons (q_sl g (q_var (pv 3)) (o_some q_int) o_none) a_nil))) (blkOk_by (own := [("start", 5), ("end", 6)]) (N := N_crossings) (sc := defScope s_crossings) (by decide +kernel)) (fun _ _ _ _ _ _ _ g => (g_tup g (g_cons (g_name (i := 5) g.nd) (g_cons (g_name (i := 6) g.nd) g_nil)))) (fun _ _ _ _ _ _ _ g => t_yes) (fun _ _ _ _ _ _ _ g => (q_callK g h_hits (by decide) (a_cons (q_var (pv 5)) (a_cons (q_var (pv 6)) (a_cons (q_var (pv 4)) a_nil)))))) b_nil))))))))
theorem has_crossings (D : DefAt K mg "crossings" s_crossings) (n_sum : mg "sum" = none) (n_zip : mg "zip" = none) (clsD : Cls K Cd) (naD_graph : NoAttr K Cd "graph") (naD_lines : NoAttr K Cd "lines") (naD_points : NoAttr K Cd "points") (h_hits : HasD P w K mg base "hits" ["start", "end", "path"] 2 (g_hits C)) (h_is_edge : HasD P w K mg base "is_edge" ["graph", "value"] 3 (g_is_edge C)) (h_path_of : HasD P w K mg base "path_of" ["points", "lines", "edge"] 1 (g_path_of C)) : HasD P w K mg base "crossings" ["drawing", "one", "other"] 4 (g_crossings C Cd) := def_has D sc_crossings bd_crossings ar_crossings out_crossings (body_crossings n_sum n_zip clsD naD_graph naD_lines naD_points h_hits h_is_edge h_path_of) (hq_crossings C Cd)
theorem arX_crossings : ∀ ss K, gx_crossings C Cd CE ss K → ss.length = 3 := by rintro _ K ⟨v0, v1, v2, v3, v4, v5, v6, c0, c1, c2, rfl, h⟩; rfl
theorem bodyX_crossings (n_sum : mg "sum" = none) (n_zip : mg "zip" = none) (clsD : Cls K Cd) (naD_graph : NoAttr K Cd "graph") (naD_lines : NoAttr K Cd "lines") (naD_points : NoAttr K Cd "points") (hE_NoEdge : HasE P w K mg base "NoEdge" CE "edge") (h_hits : HasD P w K mg base "hits" ["start", "end", "path"] 2 (g_hits C)) (h_is_edgeU : HasD P w K mg base "is_edge" ["graph", "value"] 3 (g_is_edgeU C)) (h_path_of : HasD P w K mg base "path_of" ["points", "lines", "edge"] 1 (g_path_of C)) : BodyR P w K mg base N_crossings "crossings" s_crossings 3 (qx_crossings C Cd CE) := fun f H0 M0 iol cdv A outer s H E g => by
  have tk : Takes (cxOf (L2.CX P w) P w K mg base N_crossings "crossings" (defScope s_crossings) f cdv A outer s H E) (GhX P w K H0 M0 iol E).W := takes_of rfl rfl rfl rfl
  exact (s_cons (s_if (t_not (t_val (q_callK g h_is_edgeU (by decide) (a_cons (q_fld (f := "graph") g clsD naD_graph (q_var (pv 0))) (a_cons (q_var (pv 1)) a_nil))))) (s_one (s_raise g tk hE_NoEdge (by decide) (q_var (pv 1)))) s_nil)
  (s_cons (s_if (t_or (t_not (t_val (q_callK g h_is_edgeU (by decide) (a_cons (q_fld (f := "graph") g clsD naD_graph (q_var (pv 0))) (a_cons (q_var (pv 2)) a_nil))))) (t_or1 (t_cmpQ (c_eq g) (q_var (pv 1)) (q_var (pv 2))))).pt (s_one (s_raise g tk hE_NoEdge (by decide) (q_var (pv 2)))) s_nil)
  (s_cons (s_set (i := 3) g (q_callK g h_path_of (by decide) (a_cons (q_fld (f := "points") g clsD naD_points (q_var (pv 0))) (a_cons (q_fld (f := "lines") g clsD naD_lines (q_var (pv 0))) (a_cons (q_var (pv 1)) a_nil)))))
  (s_cons (s_set (i := 4) g (q_callK g h_path_of (by decide) (a_cons (q_fld (f := "points") g clsD naD_points (q_var (pv 0))) (a_cons (q_fld (f := "lines") g clsD naD_lines (q_var (pv 0))) (a_cons (q_var (pv 2)) a_nil)))))
  (s_one (s_ret (q_sum g n_sum (b_cons (q_lc (own := [("start", 5), ("end", 6)]) g (i_zip g n_zip (a_cons (q_var (pv 3)) (a_cons (q_sl g (q_var (pv 3)) (o_some q_int) o_none) a_nil))) (blkOk_by (own := [("start", 5), ("end", 6)]) (N := N_crossings) (sc := defScope s_crossings) (by decide +kernel)) (fun _ _ _ _ _ _ _ g => (g_tup g (g_cons (g_name (i := 5) g.nd) (g_cons (g_name (i := 6) g.nd) g_nil)))) (fun _ _ _ _ _ _ _ g => t_yes) (fun _ _ _ _ _ _ _ g => (q_callK g h_hits (by decide) (a_cons (q_var (pv 5)) (a_cons (q_var (pv 6)) (a_cons (q_var (pv 4)) a_nil)))))) b_nil))))))))
theorem hasX_crossings (D : DefAt K mg "crossings" s_crossings) (n_sum : mg "sum" = none) (n_zip : mg "zip" = none) (clsD : Cls K Cd) (naD_graph : NoAttr K Cd "graph") (naD_lines : NoAttr K Cd "lines") (naD_points : NoAttr K Cd "points") (h_hits : HasD P w K mg base "hits" ["start", "end", "path"] 2 (g_hits C)) (h_is_edge : HasD P w K mg base "is_edge" ["graph", "value"] 3 (g_is_edge C)) (h_path_of : HasD P w K mg base "path_of" ["points", "lines", "edge"] 1 (g_path_of C)) (hE_NoEdge : HasE P w K mg base "NoEdge" CE "edge") (h_is_edgeU : HasD P w K mg base "is_edge" ["graph", "value"] 3 (g_is_edgeU C)) : HasX P w K mg base "crossings" ["drawing", "one", "other"] 4 (g_crossings C Cd) (gx_crossings C Cd CE) := def_hasX D sc_crossings bd_crossings ar_crossings arX_crossings out_crossings (body_crossings n_sum n_zip clsD naD_graph naD_lines naD_points h_hits h_is_edge h_path_of) (hq_crossings C Cd) (bodyX_crossings n_sum n_zip clsD naD_graph naD_lines naD_points hE_NoEdge h_hits h_is_edgeU h_path_of) (hqx_crossings C Cd CE)
abbrev s__law_said : Stmt := top 45
abbrev N__law_said : List Str := ["_law_picture", "_law_one_here", "_law_other", "e"]
theorem sc__law_said : FnScope N__law_said ["_law_picture", "_law_one_here", "_law_other"] (defScope s__law_said) := ⟨rfl, rfl, rfl, by decide +kernel, rfl, by decide +kernel, by decide +kernel⟩
theorem bd__law_said : BindsBy "_law_said" "_law_said" s__law_said ["_law_picture", "_law_one_here", "_law_other"] := fun _ _ _ _ _ _ us hl => match us, hl with | [_, _, _], _ => rfl
theorem ar__law_said : ∀ ss Q, g__law_said C Cd ss Q → ss.length = 3 := by rintro _ Q ⟨v0, v1, v2, v3, v4, v5, c0, c1, c2, rfl, h⟩; rfl
theorem out__law_said : Out (g__law_said C Cd) := by
  rintro _ Q ⟨v0, v1, v2, v3, v4, v5, c0, c1, c2, rfl, h⟩
  exact ⟨v0, v1, v2, v3, v4, v5, c0, c1, c2, rfl, by first | exact ⟨h, rfl⟩ | exact fun a => ⟨h a, rfl⟩ | exact fun a b => ⟨h a b, rfl⟩ | exact fun a b c => ⟨h a b c, rfl⟩ | exact fun a b c d => ⟨h a b c d, rfl⟩ | exact fun a b c d e => ⟨h a b c d e, rfl⟩ | exact fun a b c d e f => ⟨h a b c d e f, rfl⟩ | exact fun a b c d e f i => ⟨h a b c d e f i, rfl⟩ | exact fun a b c d e f i j => ⟨h a b c d e f i j, rfl⟩ | exact fun a b c d e f i j k => ⟨h a b c d e f i j k, rfl⟩ | exact fun a b c d e f i j k l => ⟨h a b c d e f i j k l, rfl⟩⟩
theorem body__law_said (said : SaidE K mg CE) (hE_NoEdge : HasE P w K mg base "NoEdge" CE "edge") (hX_crossings : HasX P w K mg base "crossings" ["drawing", "one", "other"] 4 (g_crossings C Cd) (gx_crossings C Cd CE)) : BodyOk P w K mg base N__law_said "_law_said" s__law_said 4 (q__law_said C Cd CE) := fun f H0 M0 iol cdv A outer s H E g =>
  (s_cons (s_trySaid (i := 3) g said hE_NoEdge hX_crossings (by decide) (fun _ _ g => (a_cons (q_var (pv 0)) (a_cons (q_var (pv 1)) (a_cons (q_var (pv 2)) a_nil)))))
  (s_one (s_ret q_str)))
theorem has__law_said (D : DefAt K mg "_law_said" s__law_said) (said : SaidE K mg CE) (hE_NoEdge : HasE P w K mg base "NoEdge" CE "edge") (hX_crossings : HasX P w K mg base "crossings" ["drawing", "one", "other"] 4 (g_crossings C Cd) (gx_crossings C Cd CE)) : HasD P w K mg base "_law_said" ["_law_picture", "_law_one_here", "_law_other"] 5 (g__law_said C Cd) := def_has D sc__law_said bd__law_said ar__law_said out__law_said (body__law_said said hE_NoEdge hX_crossings) (hq__law_said C Cd CE)
abbrev s__law_source_of : Stmt := top 40
abbrev N__law_source_of : List Str := ["_law_cell"]
theorem sc__law_source_of : FnScope N__law_source_of ["_law_cell"] (defScope s__law_source_of) := ⟨rfl, rfl, rfl, by decide +kernel, rfl, by decide +kernel, by decide +kernel⟩
theorem bd__law_source_of : BindsBy "_law_source_of" "_law_source_of" s__law_source_of ["_law_cell"] := fun _ _ _ _ _ _ us hl => match us, hl with | [_], _ => rfl
theorem ar__law_source_of : ∀ ss Q, g__law_source_of C ss Q → ss.length = 1 := by rintro _ Q ⟨v0, rfl, h⟩; rfl
theorem out__law_source_of : Out (g__law_source_of C) := by
  rintro _ Q ⟨v0, rfl, h⟩
  exact ⟨v0, rfl, by first | exact ⟨h, rfl⟩ | exact fun a => ⟨h a, rfl⟩ | exact fun a b => ⟨h a b, rfl⟩ | exact fun a b c => ⟨h a b c, rfl⟩ | exact fun a b c d => ⟨h a b c d, rfl⟩ | exact fun a b c d e => ⟨h a b c d e, rfl⟩ | exact fun a b c d e f => ⟨h a b c d e f, rfl⟩ | exact fun a b c d e f i => ⟨h a b c d e f i, rfl⟩ | exact fun a b c d e f i j => ⟨h a b c d e f i j, rfl⟩ | exact fun a b c d e f i j k => ⟨h a b c d e f i j k, rfl⟩ | exact fun a b c d e f i j k l => ⟨h a b c d e f i j k l, rfl⟩⟩
theorem body__law_source_of (n_int : mg "int" = none) : BodyOk P w K mg base N__law_source_of "_law_source_of" s__law_source_of 0 (q__law_source_of C) := fun f H0 M0 iol cdv A outer s H E g =>
  (s_cons (s_set (i := 0) g (v_if (t_cmpQ (c_ge g) (q_var (pv 0)) q_int) (q_var (pv 0)) (q_sub (q_sub q_int (q_mul q_int (q_var (pv 0)))) q_int)))
  (s_one (s_ret (q_lst (a_cons (q_mul (q_var (pv 0)) (q_intC n_int (b_cons (v_cmp (c_ge g) (q_var (pv 0)) (q_pow q_int q_int)) b_nil))) (a_cons (q_mod (q_var (pv 0)) q_int) (a_cons q_int a_nil)))))))
theorem has__law_source_of (D : DefAt K mg "_law_source_of" s__law_source_of) (n_int : mg "int" = none) : HasD P w K mg base "_law_source_of" ["_law_cell"] 1 (g__law_source_of C) := def_has D sc__law_source_of bd__law_source_of ar__law_source_of out__law_source_of (body__law_source_of n_int) (hq__law_source_of C)
abbrev s_law : Stmt := top 47
abbrev N_law : List Str := ["_law_script", "_law_cell", "_law_source", "_law_names", "_law_edges", "_law_k", "_law_name", "_law_spots", "_law_edge", "_law_picture", "_law_turn_at", "_law_bad", "_law_other", "_law_one_here", "_law_last", "_law_due"]
theorem sc_law : FnScope N_law ["_law_script"] (defScope s_law) := ⟨rfl, rfl, rfl, by decide +kernel, rfl, by decide +kernel, by decide +kernel⟩
theorem ar_law : ∀ ss Q, g_law C ss Q → ss.length = 1 := by rintro _ Q ⟨v0, c0, rfl, h⟩; rfl
theorem body_law (n_dict : mg "dict" = none) (n_enumerate : mg "enumerate" = none) (n_range : mg "range" = none) (h_Drawing : HasMk P w K mg base "Drawing" Cd ["self", "graph", "points", "lines"] 5 (g_Drawing C Cd)) (h_Graph : HasMk P w K mg base "Graph" C ["self", "vertices", "edges"] 4 (g_Graph C)) (h__law_bad_edge : HasD P w K mg base "_law_bad_edge" ["_law_source", "_law_names", "_law_edges"] 3 (g__law_bad_edge C)) (h__law_cell_at : HasD P w K mg base "_law_cell_at" ["_law_script", "_law_k"] 1 (g__law_cell_at C)) (h__law_graphC : HasD P w K mg base "_law_graph" ["_law_source", "_law_most"] 3 (g__law_graphC C)) (h__law_one : HasD P w K mg base "_law_one" ["_law_source", "_law_some"] 2 (g__law_one C)) (h__law_said : HasD P w K mg base "_law_said" ["_law_picture", "_law_one_here", "_law_other"] 5 (g__law_said C Cd)) (h__law_source_of : HasD P w K mg base "_law_source_of" ["_law_cell"] 1 (g__law_source_of C)) : BodyOk P w K mg base N_law "law" s_law 6 (q_law_k29 C Cd) := fun f H0 M0 iol cdv A outer s H E g =>
  (s_cons (s_for (vs := [1]) PassesOwn.never g (i_any g (q_add g (q_lst (a_cons (q_callK g h__law_cell_at (by decide) (a_cons (q_var (pv 0)) (a_cons q_int a_nil))) a_nil)) (q_sl g (q_var (pv 0)) (o_some q_int) (o_some q_int)))) (g_name (i := 1) g.nd) (s_cons (s_set (i := 2) g (q_callK g h__law_source_of (by decide) (a_cons (q_var (pv 1)) a_nil)))
  (s_cons (s_asg (vs := [3, 4]) (q_callH g h__law_graphC (by decide) (l_lend (pv 2) (l_keep q_int l_nil))) (g_tup g (g_cons (g_name (i := 3) g.nd) (g_cons (g_name (i := 4) g.nd) g_nil))))
  (s_cons (s_set (i := 7) g (q_dictP false g n_dict (b_cons (q_lc (own := [("_law_k", 5), ("_law_name", 6)]) g (i_enum g n_enumerate (a_cons (q_var (pv 3)) a_nil)) (blkOk_by (own := [("_law_k", 5), ("_law_name", 6)]) (N := N_law) (sc := defScope s_law) (by decide +kernel)) (fun _ _ _ _ _ _ _ g => (g_tup g (g_cons (g_name (i := 5) g.nd) (g_cons (g_name (i := 6) g.nd) g_nil)))) (fun _ _ _ _ _ _ _ g => t_yes) (fun _ _ _ _ _ _ _ g => (q_tup (a_cons (q_var (pv 6)) (a_cons (q_tup (a_cons (q_var (pv 5)) (a_cons (q_mul (q_var (pv 5)) (q_var (pv 5))) a_nil))) a_nil))))) b_nil)))
  (s_cons (s_set (i := 9) g (q_makeH g h_Drawing (by decide) (a_cons (q_makeH g h_Graph (by decide) (a_cons (q_var (pv 3)) (a_cons (q_var (pv 4)) a_nil))) (a_cons (q_frz (q_var (pv 7))) (a_cons (q_frz (q_dictP true g n_dict (b_cons (q_lc (own := [("_law_edge", 8)]) g (i_any g (q_var (pv 4))) (blkOk_by (own := [("_law_edge", 8)]) (N := N_law) (sc := defScope s_law) (by decide +kernel)) (fun _ _ _ _ _ _ _ g => (g_name (i := 8) g.nd)) (fun _ _ _ _ _ _ _ g => t_yes) (fun _ _ _ _ _ _ _ g => (q_tup (a_cons (q_var (pv 8)) (a_cons (q_lst a_nil) a_nil))))) b_nil))) a_nil)))))
  (s_one (s_for (vs := [10]) PassesOwn.never g (i_rng1 n_range (a_cons q_int a_nil)) (g_name (i := 10) g.nd) (s_cons (s_par (i := 11) (j := 12) g (a_cons (q_callH g h__law_bad_edge (by decide) (l_lend (pv 2) (l_keep (q_var (pv 3)) (l_keep (q_var (pv 4)) l_nil)))) (a_cons (q_callH g h__law_bad_edge (by decide) (l_lend (pv 2) (l_keep (q_var (pv 3)) (l_keep (q_var (pv 4)) l_nil)))) a_nil)))
  (s_cons (s_if (t_cmpQ (c_neB g) (q_callK g h__law_said (by decide) (a_cons (q_var (pv 9)) (a_cons (q_var (pv 11)) (a_cons (q_var (pv 12)) a_nil)))) (q_tup (a_cons q_str (a_cons (q_var (pv 11)) a_nil)))) (s_one (s_ret q_bl)) s_nil)
  (s_one (s_if (t_cmpQ (c_ne g) (q_var (pv 4)) (q_lst a_nil)) (s_cons (s_set (i := 13) g (q_callH g h__law_one (by decide) (l_lend (pv 2) (l_keep (q_var (pv 4)) l_nil))))
  (s_cons (s_set (i := 14) g (q_callH g h__law_one (by decide) (l_lend (pv 2) (l_keep (q_var (pv 4)) l_nil))))
  (s_cons (s_if (t_or (t_cmpQ (c_neB g) (q_callK g h__law_said (by decide) (a_cons (q_var (pv 9)) (a_cons (q_var (pv 13)) (a_cons (q_var (pv 11)) a_nil)))) (q_tup (a_cons q_str (a_cons (q_var (pv 11)) a_nil)))) (t_or1 (t_cmpQ (c_neB g) (q_callK g h__law_said (by decide) (a_cons (q_var (pv 9)) (a_cons (q_var (pv 11)) (a_cons (q_var (pv 13)) a_nil)))) (q_tup (a_cons q_str (a_cons (q_var (pv 11)) a_nil)))))).pt (s_one (s_ret q_bl)) s_nil)
  (s_cons (s_set (i := 15) g q_str)
  (s_cons (s_if (t_cmpQ (c_eq g) (q_var (pv 13)) (q_var (pv 14))) (s_one (s_set (i := 15) g (q_tup (a_cons q_str (a_cons (q_var (pv 14)) a_nil))))) s_nil)
  (s_one (s_if (t_cmpQ (c_neB g) (q_callK g h__law_said (by decide) (a_cons (q_var (pv 9)) (a_cons (q_var (pv 13)) (a_cons (q_var (pv 14)) a_nil)))) (q_var (pv 15))) (s_one (s_ret q_bl)) s_nil))))))) s_nil)))))))))))
  (s_one (s_ret q_bl)))
theorem fn_law {f : Addr} {fd : FuncData} (F : Fun K "law" "law" s_law f fd) (n_dict : mg "dict" = none) (n_enumerate : mg "enumerate" = none) (n_range : mg "range" = none) (h_Drawing : HasMk P w K mg base "Drawing" Cd ["self", "graph", "points", "lines"] 5 (g_Drawing C Cd)) (h_Graph : HasMk P w K mg base "Graph" C ["self", "vertices", "edges"] 4 (g_Graph C)) (h__law_bad_edge : HasD P w K mg base "_law_bad_edge" ["_law_source", "_law_names", "_law_edges"] 3 (g__law_bad_edge C)) (h__law_cell_at : HasD P w K mg base "_law_cell_at" ["_law_script", "_law_k"] 1 (g__law_cell_at C)) (h__law_graphC : HasD P w K mg base "_law_graph" ["_law_source", "_law_most"] 3 (g__law_graphC C)) (h__law_one : HasD P w K mg base "_law_one" ["_law_source", "_law_some"] 2 (g__law_one C)) (h__law_said : HasD P w K mg base "_law_said" ["_law_picture", "_law_one_here", "_law_other"] 5 (g__law_said C Cd)) (h__law_source_of : HasD P w K mg base "_law_source_of" ["_law_cell"] 1 (g__law_source_of C)) : FnOk P w K mg base CX0 7 f fd ["_law_script"] (spP ⟨P, w, K⟩ (g_law C)) := body_fn F sc_law ar_law (body_law n_dict n_enumerate n_range h_Drawing h_Graph h__law_bad_edge h__law_cell_at h__law_graphC h__law_one h__law_said h__law_source_of) (hq_law_k29 C Cd)
end CP
namespace CP
open PySem L2
theorem all_mk {l : PySem.W.OpenLaw} {w : World} {K : PySem.W.Frag} {h : Heap} {mg : Str → Option Value} {fa C Cd CE fEI cB cS0 cS1 cS2 cS3 cS4 f0 f1 f2 f3 f4 f5 f6 f7 f8 f9 f10 f11 f12 f13 f14 f15 f16 f17 f18 f19 f20 f21 f22 f23 f24 f25 f26 f27 f28 f29 f30 : Addr} (X : K.In h) (G : h.Ns mainGlobals mg) (hfa : mg "law" = some (.ref fa))
    {odEI anEI : Option Addr} {slEI : Array (Option Value)} {ocEI kVEI dcEI pmEI cdEI ctEI : Value} {nmE qE : Str} {NE : Addr} {bsE bmE subE : List Value} {snE : List Str} {abE : Bool} {colE : Option Bool} {ddE : Option Addr} {k0E k1E k2E k3E k5E : Option Value} {cdtE cdtB : ClassData}
    {od0 an0 od1 an1 od2 an2 od3 an3 od4 an4 od5 an5 od6 an6 od7 an7 od8 an8 od9 an9 od10 an10 od11 an11 od12 an12 od13 an13 od14 an14 od15 an15 od16 an16 od17 an17 od18 an18 od19 an19 od20 an20 od21 an21 od22 an22 od23 an23 od24 an24 od25 an25 od26 an26 od27 an27 od28 an28 od29 an29 od30 an30 : Option Addr} {sl0 sl1 sl2 sl3 sl4 sl5 sl6 sl7 sl8 sl9 sl10 sl11 sl12 sl13 sl14 sl15 sl16 sl17 sl18 sl19 sl20 sl21 sl22 sl23 sl24 sl25 sl26 sl27 sl28 sl29 sl30 : Array (Option Value)} {oc0 kV0 dc0 pm0 cd0 ct0 oc1 kV1 dc1 pm1 cd1 ct1 oc2 kV2 dc2 pm2 cd2 ct2 oc3 kV3 dc3 pm3 cd3 ct3 oc4 kV4 dc4 pm4 cd4 ct4 oc5 kV5 dc5 pm5 cd5 ct5 oc6 kV6 dc6 pm6 cd6 ct6 oc7 kV7 dc7 pm7 cd7 ct7 oc8 kV8 dc8 pm8 cd8 ct8 oc9 kV9 dc9 pm9 cd9 ct9 oc10 kV10 dc10 pm10 cd10 ct10 oc11 kV11 dc11 pm11 cd11 ct11 oc12 kV12 dc12 pm12 cd12 ct12 oc13 kV13 dc13 pm13 cd13 ct13 oc14 kV14 dc14 pm14 cd14 ct14 oc15 kV15 dc15 pm15 cd15 ct15 oc16 kV16 dc16 pm16 cd16 ct16 oc17 kV17 dc17 pm17 cd17 ct17 oc18 kV18 dc18 pm18 cd18 ct18 oc19 kV19 dc19 pm19 cd19 ct19 oc20 kV20 dc20 pm20 cd20 ct20 oc21 kV21 dc21 pm21 cd21 ct21 oc22 kV22 dc22 pm22 cd22 ct22 oc23 kV23 dc23 pm23 cd23 ct23 oc24 kV24 dc24 pm24 cd24 ct24 oc25 kV25 dc25 pm25 cd25 ct25 oc26 kV26 dc26 pm26 cd26 ct26 oc27 kV27 dc27 pm27 cd27 ct27 oc28 kV28 dc28 pm28 cd28 ct28 oc29 kV29 dc29 pm29 cd29 ct29 oc30 kV30 dc30 pm30 cd30 ct30 : Value} {t0 t1 t2 t3 t4 t5 : Tok}
    (aC : PySem.W.nsIn K mainGlobals "Graph" = some (some (.ref C)))
    (aCd : PySem.W.nsIn K mainGlobals "Drawing" = some (some (.ref Cd)))
    (a0 : PySem.W.nsIn K mainGlobals "offsets" = some (some (.ref f0)))
    (l0 : K.lookup f0 = some ⟨oc0, od0, .func (PySem.W.fnOf "offsets" "offsets" (defArgs s_offsets) (defBody s_offsets) (defScope s_offsets) .none kV0 dc0 pm0 an0 cd0 ct0), sl0⟩)
    (c0 : PySem.W.codeIn K cd0 "offsets" = true)
    (k0 : PySem.W.keepIn K (.ref f0) = true)
    (a1 : PySem.W.nsIn K mainGlobals "others_in_box" = some (some (.ref f1)))
    (l1 : K.lookup f1 = some ⟨oc1, od1, .func (PySem.W.fnOf "others_in_box" "others_in_box" (defArgs s_others_in_box) (defBody s_others_in_box) (defScope s_others_in_box) .none kV1 dc1 pm1 an1 cd1 ct1), sl1⟩)
    (c1 : PySem.W.codeIn K cd1 "others_in_box" = true)
    (k1 : PySem.W.keepIn K (.ref f1) = true)
    (a2 : PySem.W.nsIn K mainGlobals "path_of" = some (some (.ref f2)))
    (l2 : K.lookup f2 = some ⟨oc2, od2, .func (PySem.W.fnOf "path_of" "path_of" (defArgs s_path_of) (defBody s_path_of) (defScope s_path_of) .none kV2 dc2 pm2 an2 cd2 ct2), sl2⟩)
    (c2 : PySem.W.codeIn K cd2 "path_of" = true)
    (k2 : PySem.W.keepIn K (.ref f2) = true)
    (a3 : PySem.W.nsIn K mainGlobals "are_in_general_position" = some (some (.ref f3)))
    (l3 : K.lookup f3 = some ⟨oc3, od3, .func (PySem.W.fnOf "are_in_general_position" "are_in_general_position" (defArgs s_are_in_general_position) (defBody s_are_in_general_position) (defScope s_are_in_general_position) .none kV3 dc3 pm3 an3 cd3 ct3), sl3⟩)
    (c3 : PySem.W.codeIn K cd3 "are_in_general_position" = true)
    (k3 : PySem.W.keepIn K (.ref f3) = true)
    (a4 : PySem.W.nsIn K mainGlobals "is_coordinate" = some (some (.ref f4)))
    (l4 : K.lookup f4 = some ⟨oc4, od4, .func (PySem.W.fnOf "is_coordinate" "is_coordinate" (defArgs s_is_coordinate) (defBody s_is_coordinate) (defScope s_is_coordinate) .none kV4 dc4 pm4 an4 cd4 ct4), sl4⟩)
    (c4 : PySem.W.codeIn K cd4 "is_coordinate" = true)
    (k4 : PySem.W.keepIn K (.ref f4) = true)
    (a5 : PySem.W.nsIn K mainGlobals "is_couple" = some (some (.ref f5)))
    (l5 : K.lookup f5 = some ⟨oc5, od5, .func (PySem.W.fnOf "is_couple" "is_couple" (defArgs s_is_couple) (defBody s_is_couple) (defScope s_is_couple) .none kV5 dc5 pm5 an5 cd5 ct5), sl5⟩)
    (c5 : PySem.W.codeIn K cd5 "is_couple" = true)
    (k5 : PySem.W.keepIn K (.ref f5) = true)
    (a6 : PySem.W.nsIn K mainGlobals "is_place" = some (some (.ref f6)))
    (l6 : K.lookup f6 = some ⟨oc6, od6, .func (PySem.W.fnOf "is_place" "is_place" (defArgs s_is_place) (defBody s_is_place) (defScope s_is_place) .none kV6 dc6 pm6 an6 cd6 ct6), sl6⟩)
    (c6 : PySem.W.codeIn K cd6 "is_place" = true)
    (k6 : PySem.W.keepIn K (.ref f6) = true)
    (a7 : PySem.W.nsIn K mainGlobals "is_row" = some (some (.ref f7)))
    (l7 : K.lookup f7 = some ⟨oc7, od7, .func (PySem.W.fnOf "is_row" "is_row" (defArgs s_is_row) (defBody s_is_row) (defScope s_is_row) .none kV7 dc7 pm7 an7 cd7 ct7), sl7⟩)
    (c7 : PySem.W.codeIn K cd7 "is_row" = true)
    (k7 : PySem.W.keepIn K (.ref f7) = true)
    (a8 : PySem.W.nsIn K mainGlobals "are_bends" = some (some (.ref f8)))
    (l8 : K.lookup f8 = some ⟨oc8, od8, .func (PySem.W.fnOf "are_bends" "are_bends" (defArgs s_are_bends) (defBody s_are_bends) (defScope s_are_bends) .none kV8 dc8 pm8 an8 cd8 ct8), sl8⟩)
    (c8 : PySem.W.codeIn K cd8 "are_bends" = true)
    (k8 : PySem.W.keepIn K (.ref f8) = true)
    (a9 : PySem.W.nsIn K mainGlobals "is_among" = some (some (.ref f9)))
    (l9 : K.lookup f9 = some ⟨oc9, od9, .func (PySem.W.fnOf "is_among" "is_among" (defArgs s_is_among) (defBody s_is_among) (defScope s_is_among) .none kV9 dc9 pm9 an9 cd9 ct9), sl9⟩)
    (c9 : PySem.W.codeIn K cd9 "is_among" = true)
    (k9 : PySem.W.keepIn K (.ref f9) = true)
    (a10 : PySem.W.nsIn K mainGlobals "joins" = some (some (.ref f10)))
    (l10 : K.lookup f10 = some ⟨oc10, od10, .func (PySem.W.fnOf "joins" "joins" (defArgs s_joins) (defBody s_joins) (defScope s_joins) .none kV10 dc10 pm10 an10 cd10 ct10), sl10⟩)
    (c10 : PySem.W.codeIn K cd10 "joins" = true)
    (k10 : PySem.W.keepIn K (.ref f10) = true)
    (a11 : PySem.W.nsIn K mainGlobals "is_edge" = some (some (.ref f11)))
    (l11 : K.lookup f11 = some ⟨oc11, od11, .func (PySem.W.fnOf "is_edge" "is_edge" (defArgs s_is_edge) (defBody s_is_edge) (defScope s_is_edge) .none kV11 dc11 pm11 an11 cd11 ct11), sl11⟩)
    (c11 : PySem.W.codeIn K cd11 "is_edge" = true)
    (k11 : PySem.W.keepIn K (.ref f11) = true)
    (a12 : PySem.W.nsIn K mainGlobals "are_lines" = some (some (.ref f12)))
    (l12 : K.lookup f12 = some ⟨oc12, od12, .func (PySem.W.fnOf "are_lines" "are_lines" (defArgs s_are_lines) (defBody s_are_lines) (defScope s_are_lines) .none kV12 dc12 pm12 an12 cd12 ct12), sl12⟩)
    (c12 : PySem.W.codeIn K cd12 "are_lines" = true)
    (k12 : PySem.W.keepIn K (.ref f12) = true)
    (a13 : PySem.W.nsIn K mainGlobals "are_points" = some (some (.ref f13)))
    (l13 : K.lookup f13 = some ⟨oc13, od13, .func (PySem.W.fnOf "are_points" "are_points" (defArgs s_are_points) (defBody s_are_points) (defScope s_are_points) .none kV13 dc13 pm13 an13 cd13 ct13), sl13⟩)
    (c13 : PySem.W.codeIn K cd13 "are_points" = true)
    (k13 : PySem.W.keepIn K (.ref f13) = true)
    (a14 : PySem.W.findIn K (.ref Cd) "__init__" = some (some (.ref f14)))
    (i14 : PySem.W.isFn K (.ref f14) = true)
    (l14 : K.lookup f14 = some ⟨oc14, od14, .func (PySem.W.fnOf "__init__" "Drawing.__init__" (defArgs s_Drawing) (defBody s_Drawing) (defScope s_Drawing) .none kV14 dc14 pm14 an14 cd14 ct14), sl14⟩)
    (c14 : PySem.W.codeIn K cd14 "Drawing.__init__" = true)
    (k14 : PySem.W.keepIn K (.ref f14) = true)
    (a15 : PySem.W.nsIn K mainGlobals "are_edges" = some (some (.ref f15)))
    (l15 : K.lookup f15 = some ⟨oc15, od15, .func (PySem.W.fnOf "are_edges" "are_edges" (defArgs s_are_edges) (defBody s_are_edges) (defScope s_are_edges) .none kV15 dc15 pm15 an15 cd15 ct15), sl15⟩)
    (c15 : PySem.W.codeIn K cd15 "are_edges" = true)
    (k15 : PySem.W.keepIn K (.ref f15) = true)
    (a16 : PySem.W.nsIn K mainGlobals "is_name" = some (some (.ref f16)))
    (l16 : K.lookup f16 = some ⟨oc16, od16, .func (PySem.W.fnOf "is_name" "is_name" (defArgs s_is_name) (defBody s_is_name) (defScope s_is_name) .none kV16 dc16 pm16 an16 cd16 ct16), sl16⟩)
    (c16 : PySem.W.codeIn K cd16 "is_name" = true)
    (k16 : PySem.W.keepIn K (.ref f16) = true)
    (a17 : PySem.W.nsIn K mainGlobals "are_vertices" = some (some (.ref f17)))
    (l17 : K.lookup f17 = some ⟨oc17, od17, .func (PySem.W.fnOf "are_vertices" "are_vertices" (defArgs s_are_vertices) (defBody s_are_vertices) (defScope s_are_vertices) .none kV17 dc17 pm17 an17 cd17 ct17), sl17⟩)
    (c17 : PySem.W.codeIn K cd17 "are_vertices" = true)
    (k17 : PySem.W.keepIn K (.ref f17) = true)
    (a18 : PySem.W.findIn K (.ref C) "__init__" = some (some (.ref f18)))
    (i18 : PySem.W.isFn K (.ref f18) = true)
    (l18 : K.lookup f18 = some ⟨oc18, od18, .func (PySem.W.fnOf "__init__" "Graph.__init__" (defArgs s_Graph) (defBody s_Graph) (defScope s_Graph) .none kV18 dc18 pm18 an18 cd18 ct18), sl18⟩)
    (c18 : PySem.W.codeIn K cd18 "Graph.__init__" = true)
    (k18 : PySem.W.keepIn K (.ref f18) = true)
    (a19 : PySem.W.nsIn K mainGlobals "_law_next" = some (some (.ref f19)))
    (l19 : K.lookup f19 = some ⟨oc19, od19, .func (PySem.W.fnOf "_law_next" "_law_next" (defArgs s__law_next) (defBody s__law_next) (defScope s__law_next) .none kV19 dc19 pm19 an19 cd19 ct19), sl19⟩)
    (c19 : PySem.W.codeIn K cd19 "_law_next" = true)
    (k19 : PySem.W.keepIn K (.ref f19) = true)
    (a20 : PySem.W.nsIn K mainGlobals "_law_one" = some (some (.ref f20)))
    (l20 : K.lookup f20 = some ⟨oc20, od20, .func (PySem.W.fnOf "_law_one" "_law_one" (defArgs s__law_one) (defBody s__law_one) (defScope s__law_one) .none kV20 dc20 pm20 an20 cd20 ct20), sl20⟩)
    (c20 : PySem.W.codeIn K cd20 "_law_one" = true)
    (k20 : PySem.W.keepIn K (.ref f20) = true)
    (a21 : PySem.W.nsIn K mainGlobals "_law_bad_edge" = some (some (.ref f21)))
    (l21 : K.lookup f21 = some ⟨oc21, od21, .func (PySem.W.fnOf "_law_bad_edge" "_law_bad_edge" (defArgs s__law_bad_edge) (defBody s__law_bad_edge) (defScope s__law_bad_edge) .none kV21 dc21 pm21 an21 cd21 ct21), sl21⟩)
    (c21 : PySem.W.codeIn K cd21 "_law_bad_edge" = true)
    (k21 : PySem.W.keepIn K (.ref f21) = true)
    (a22 : PySem.W.nsIn K mainGlobals "_law_cell_at" = some (some (.ref f22)))
    (l22 : K.lookup f22 = some ⟨oc22, od22, .func (PySem.W.fnOf "_law_cell_at" "_law_cell_at" (defArgs s__law_cell_at) (defBody s__law_cell_at) (defScope s__law_cell_at) .none kV22 dc22 pm22 an22 cd22 ct22), sl22⟩)
    (c22 : PySem.W.codeIn K cd22 "_law_cell_at" = true)
    (k22 : PySem.W.keepIn K (.ref f22) = true)
    (a23 : PySem.W.nsIn K mainGlobals "_law_mixed" = some (some (.ref f23)))
    (l23 : K.lookup f23 = some ⟨oc23, od23, .func (PySem.W.fnOf "_law_mixed" "_law_mixed" (defArgs s__law_mixed) (defBody s__law_mixed) (defScope s__law_mixed) .none kV23 dc23 pm23 an23 cd23 ct23), sl23⟩)
    (c23 : PySem.W.codeIn K cd23 "_law_mixed" = true)
    (k23 : PySem.W.keepIn K (.ref f23) = true)
    (a24 : PySem.W.nsIn K mainGlobals "_law_graph" = some (some (.ref f24)))
    (l24 : K.lookup f24 = some ⟨oc24, od24, .func (PySem.W.fnOf "_law_graph" "_law_graph" (defArgs s__law_graph) (defBody s__law_graph) (defScope s__law_graph) .none kV24 dc24 pm24 an24 cd24 ct24), sl24⟩)
    (c24 : PySem.W.codeIn K cd24 "_law_graph" = true)
    (k24 : PySem.W.keepIn K (.ref f24) = true)
    (a25 : PySem.W.nsIn K mainGlobals "are_opposite" = some (some (.ref f25)))
    (l25 : K.lookup f25 = some ⟨oc25, od25, .func (PySem.W.fnOf "are_opposite" "are_opposite" (defArgs s_are_opposite) (defBody s_are_opposite) (defScope s_are_opposite) .none kV25 dc25 pm25 an25 cd25 ct25), sl25⟩)
    (c25 : PySem.W.codeIn K cd25 "are_opposite" = true)
    (k25 : PySem.W.keepIn K (.ref f25) = true)
    (a26 : PySem.W.nsIn K mainGlobals "hits" = some (some (.ref f26)))
    (l26 : K.lookup f26 = some ⟨oc26, od26, .func (PySem.W.fnOf "hits" "hits" (defArgs s_hits) (defBody s_hits) (defScope s_hits) .none kV26 dc26 pm26 an26 cd26 ct26), sl26⟩)
    (c26 : PySem.W.codeIn K cd26 "hits" = true)
    (k26 : PySem.W.keepIn K (.ref f26) = true)
    (a27 : PySem.W.nsIn K mainGlobals "crossings" = some (some (.ref f27)))
    (l27 : K.lookup f27 = some ⟨oc27, od27, .func (PySem.W.fnOf "crossings" "crossings" (defArgs s_crossings) (defBody s_crossings) (defScope s_crossings) .none kV27 dc27 pm27 an27 cd27 ct27), sl27⟩)
    (c27 : PySem.W.codeIn K cd27 "crossings" = true)
    (k27 : PySem.W.keepIn K (.ref f27) = true)
    (a28 : PySem.W.nsIn K mainGlobals "_law_said" = some (some (.ref f28)))
    (l28 : K.lookup f28 = some ⟨oc28, od28, .func (PySem.W.fnOf "_law_said" "_law_said" (defArgs s__law_said) (defBody s__law_said) (defScope s__law_said) .none kV28 dc28 pm28 an28 cd28 ct28), sl28⟩)
    (c28 : PySem.W.codeIn K cd28 "_law_said" = true)
    (k28 : PySem.W.keepIn K (.ref f28) = true)
    (a29 : PySem.W.nsIn K mainGlobals "_law_source_of" = some (some (.ref f29)))
    (l29 : K.lookup f29 = some ⟨oc29, od29, .func (PySem.W.fnOf "_law_source_of" "_law_source_of" (defArgs s__law_source_of) (defBody s__law_source_of) (defScope s__law_source_of) .none kV29 dc29 pm29 an29 cd29 ct29), sl29⟩)
    (c29 : PySem.W.codeIn K cd29 "_law_source_of" = true)
    (k29 : PySem.W.keepIn K (.ref f29) = true)
    (a30 : PySem.W.nsIn K mainGlobals "law" = some (some (.ref f30)))
    (l30 : K.lookup f30 = some ⟨oc30, od30, .func (PySem.W.fnOf "law" "law" (defArgs s_law) (defBody s_law) (defScope s_law) .none kV30 dc30 pm30 an30 cd30 ct30), sl30⟩)
    (c30 : PySem.W.codeIn K cd30 "law" = true)
    (k30 : PySem.W.keepIn K (.ref f30) = true)
    (pgC : PySem.W.plainGet K C Str.empty = true)
    (hdC : PySem.W.hasDictIn K C = true)
    (poC : PySem.W.plainOver K C = true)
    (saC : PySem.W.findIn K (.ref C) "__setattr__" = some (some (.builtin "object.__setattr__")))
    (mkC : PySem.W.makesIn K C = true)
    (kcC : PySem.W.keepIn K (.ref C) = true)
    (nA_edges : PySem.W.findIn K (.ref C) "edges" = some none)
    (nA_vertices : PySem.W.findIn K (.ref C) "vertices" = some none)
    (pgD : PySem.W.plainGet K Cd Str.empty = true)
    (hdD : PySem.W.hasDictIn K Cd = true)
    (poD : PySem.W.plainOver K Cd = true)
    (saD : PySem.W.findIn K (.ref Cd) "__setattr__" = some (some (.builtin "object.__setattr__")))
    (mkD : PySem.W.makesIn K Cd = true)
    (kcD : PySem.W.keepIn K (.ref Cd) = true)
    (nAD_graph : PySem.W.findIn K (.ref Cd) "graph" = some none)
    (nAD_lines : PySem.W.findIn K (.ref Cd) "lines" = some none)
    (nAD_points : PySem.W.findIn K (.ref Cd) "points" = some none)
    (z_abs : PySem.W.nsIn K mainGlobals "abs" = some none)
    (z_all : PySem.W.nsIn K mainGlobals "all" = some none)
    (z_bool : PySem.W.nsIn K mainGlobals "bool" = some none)
    (z_dict : PySem.W.nsIn K mainGlobals "dict" = some none)
    (z_enumerate : PySem.W.nsIn K mainGlobals "enumerate" = some none)
    (z_int : PySem.W.nsIn K mainGlobals "int" = some none)
    (z_isinstance : PySem.W.nsIn K mainGlobals "isinstance" = some none)
    (z_len : PySem.W.nsIn K mainGlobals "len" = some none)
    (z_list : PySem.W.nsIn K mainGlobals "list" = some none)
    (z_min : PySem.W.nsIn K mainGlobals "min" = some none)
    (z_range : PySem.W.nsIn K mainGlobals "range" = some none)
    (z_set : PySem.W.nsIn K mainGlobals "set" = some none)
    (z_sorted : PySem.W.nsIn K mainGlobals "sorted" = some none)
    (z_str : PySem.W.nsIn K mainGlobals "str" = some none)
    (z_sum : PySem.W.nsIn K mainGlobals "sum" = some none)
    (z_tuple : PySem.W.nsIn K mainGlobals "tuple" = some none)
    (z_zip : PySem.W.nsIn K mainGlobals "zip" = some none)
    (y_FARTHEST : PySem.W.nsIn K mainGlobals "FARTHEST" = some (some (.int 1000000000000000000000000000000 t0)))
    (y_LETTERS : PySem.W.nsIn K mainGlobals "LETTERS" = some (some (.str v_LETTERS t1)))
    (y_LONGEST_NAME : PySem.W.nsIn K mainGlobals "LONGEST_NAME" = some (some (.int 8 t2)))
    (y_MOST_BENDS : PySem.W.nsIn K mainGlobals "MOST_BENDS" = some (some (.int 60 t3)))
    (y_MOST_EDGES : PySem.W.nsIn K mainGlobals "MOST_EDGES" = some (some (.int 18 t4)))
    (y_MOST_VERTICES : PySem.W.nsIn K mainGlobals "MOST_VERTICES" = some (some (.int 8 t5)))
    (aE : PySem.W.nsIn K mainGlobals "NoEdge" = some (some (.ref CE)))
    (aEI : PySem.W.findIn K (.ref CE) "__init__" = some (some (.ref fEI)))
    (tEI : PySem.W.typeIn K (.ref fEI) = some (.type "function"))
    (lEI : K.lookup fEI = some ⟨ocEI, odEI, .func (PySem.W.fnOf "__init__" "NoEdge.__init__" (defArgs s_init_NoEdge) (defBody s_init_NoEdge) (defScope s_init_NoEdge) .none kVEI dcEI pmEI anEI cdEI ctEI), slEI⟩)
    (cEI : PySem.W.codeIn K cdEI "NoEdge.__init__" = true)
    (kEI : PySem.W.keepIn K (.ref fEI) = true)
    (oxE : K.lookup CE = some (PySem.excClassObj nmE qE CE NE bsE bmE true snE subE abE colE ddE k0E k1E k2E k3E k5E "ValueError.__new__"))
    (rvE : PySem.HandSPX.refsVE bmE = true)
    (saE : PySem.W.findIn K (.ref CE) "__setattr__" = some (some (.builtin "object.__setattr__")))
    (tyE : PySem.W.typeIn K (.ref CE) = some (.type "type"))
    (kpE : PySem.W.keepIn K (.ref CE) = true)
    (fnE : PySem.W.findIn K (.ref CE) "edge" = some none)
    (xclE : PySem.W.clsIn K CE = some cdtE)
    (xgaE : PySem.W.findIn K (.ref CE) "__getattribute__" = some (some (.builtin "BaseException.__getattribute__")))
    (xggE : PySem.W.findIn K (.ref CE) "__getattr__" = some none)
    (xsbE : PySem.W.subIn K (.ref CE) (.type "BaseException") = some true)
    (xhdE : PySem.W.hasDictIn K CE = true)
    (xssE : PySem.W.subIn K (.ref CE) (.ref CE) = some true)
    (sgD : PySem.W.specialIn K (.builtin "object.__class__") "__get__" = some (some (.builtin "getset_descriptor.__get__")))
    (tkD : PySem.W.takesIn K (.builtin "object.__class__") = some true)
    (aB : PySem.W.nsIn K mainGlobals "ParityError" = some (some (.ref cB)))
    (aS0 : PySem.W.nsIn K mainGlobals "NoCarry" = some (some (.ref cS0)))
    (kS0 : PySem.W.kitOne K (.ref CE) (.ref cS0) = some false)
    (aS1 : PySem.W.nsIn K mainGlobals "NoDrawing" = some (some (.ref cS1)))
    (kS1 : PySem.W.kitOne K (.ref CE) (.ref cS1) = some false)
    (aS2 : PySem.W.nsIn K mainGlobals "NoGraph" = some (some (.ref cS2)))
    (kS2 : PySem.W.kitOne K (.ref CE) (.ref cS2) = some false)
    (aS3 : PySem.W.nsIn K mainGlobals "NoOrder" = some (some (.ref cS3)))
    (kS3 : PySem.W.kitOne K (.ref CE) (.ref cS3) = some false)
    (aS4 : PySem.W.nsIn K mainGlobals "NoRecord" = some (some (.ref cS4)))
    (kS4 : PySem.W.kitOne K (.ref CE) (.ref cS4) = some false)
    (kSE : PySem.W.kitOne K (.ref CE) (.ref CE) = some true)
    (xclB : PySem.W.clsIn K cB = some cdtB)
    (xsbB : PySem.W.subIn K (.ref cB) (.type "BaseException") = some true)
    (tyB : PySem.W.typeIn K (.ref cB) = some (.type "type"))
    (xEB : PySem.W.subIn K (.ref CE) (.ref cB) = some true)
    (xcaE : PySem.W.findIn K (.ref CE) "__class__" = some (some (.builtin "object.__class__")))
    (xmoE : PySem.W.mroIn K CE (.type "object") = some true) :
    ∃ fd : FuncData, (∀ (s : Shared) (v : Value), BindsTo s fd ⟨[v], []⟩ [("_law_script", v)]) ∧ ∀ base : Heap, K.In base → base.Ns mainGlobals mg → FnOk l.prog w K mg base CX0 7 fa fd ["_law_script"] (spP ⟨l.prog, w, K⟩ gLaw) := by
  have e := hfa.symm.trans (PySem.W.mg_of X G a30)
  cases e
  have cls : Cls K C := ⟨pgC, hdC, poC, saC⟩
  have clsD : Cls K Cd := ⟨pgD, hdD, poD, saD⟩
  have naD_graph : NoAttr K Cd "graph" := nAD_graph
  have naD_lines : NoAttr K Cd "lines" := nAD_lines
  have naD_points : NoAttr K Cd "points" := nAD_points
  have na_edges : NoAttr K C "edges" := nA_edges
  have na_vertices : NoAttr K C "vertices" := nA_vertices
  have n_abs := PySem.W.mg_none_of X G z_abs
  have n_all := PySem.W.mg_none_of X G z_all
  have n_bool := PySem.W.mg_none_of X G z_bool
  have n_dict := PySem.W.mg_none_of X G z_dict
  have n_enumerate := PySem.W.mg_none_of X G z_enumerate
  have n_int := PySem.W.mg_none_of X G z_int
  have n_isinstance := PySem.W.mg_none_of X G z_isinstance
  have n_len := PySem.W.mg_none_of X G z_len
  have n_list := PySem.W.mg_none_of X G z_list
  have n_min := PySem.W.mg_none_of X G z_min
  have n_range := PySem.W.mg_none_of X G z_range
  have n_set := PySem.W.mg_none_of X G z_set
  have n_sorted := PySem.W.mg_none_of X G z_sorted
  have n_str := PySem.W.mg_none_of X G z_str
  have n_sum := PySem.W.mg_none_of X G z_sum
  have n_tuple := PySem.W.mg_none_of X G z_tuple
  have n_zip := PySem.W.mg_none_of X G z_zip
  have x_FARTHEST := PySem.W.mg_of X G y_FARTHEST
  have x_LETTERS := PySem.W.mg_of X G y_LETTERS
  have x_LONGEST_NAME := PySem.W.mg_of X G y_LONGEST_NAME
  have x_MOST_BENDS := PySem.W.mg_of X G y_MOST_BENDS
  have x_MOST_EDGES := PySem.W.mg_of X G y_MOST_EDGES
  have x_MOST_VERTICES := PySem.W.mg_of X G y_MOST_VERTICES
  refine ⟨PySem.W.fnOf "law" "law" (defArgs s_law) (defBody s_law) (defScope s_law) .none kV30 dc30 pm30 an30 cd30 ct30, fun s v => .of_eq rfl, fun base _ _ => ?_⟩
  have oE : OexC K CE := ⟨⟨_, _, _, _, _, _, _, _, _, _, _, _, _, _, _, oxE, rvE⟩, saE, xsbE, tyE, kpE⟩
  have FEI := fun_mk (st := s_init_NoEdge) lEI cEI kEI
  have hE_NoEdge : HasE l.prog w K mg base "NoEdge" CE "edge" := ⟨PySem.W.mg_of X G aE, oE, ⟨xgaE, xggE, xsbE, xhdE⟩, fnE, exm_self xsbE xclE tyE xssE, ⟨_, _, aEI, tEI, init_NoEdge FEI oE fnE, FEI.binds bd_init_NoEdge⟩⟩
  have XE : XCls K CE := ⟨by rw [xclE]; rfl, xgaE, xggE, xsbE, xhdE, xcaE, sgD, tkD, xmoE⟩
  have kOS : PySem.W.kitAny K (.ref CE) [.ref cS0, .ref cS1, .ref cS2, .ref cS3, .ref cS4] = some false := kitAny_cons kS0 (fun _ => kitAny_cons kS1 (fun _ => kitAny_cons kS2 (fun _ => kitAny_cons kS3 (fun _ => kitAny_cons kS4 (fun _ => rfl) (fun z => nomatch z)) (fun z => nomatch z)) (fun z => nomatch z)) (fun z => nomatch z)) (fun z => nomatch z)
  have said : SaidE K mg CE := ⟨_, _, _, _, _, _, n_isinstance, PySem.W.mg_of X G aB, PySem.W.mg_of X G aS0, PySem.W.mg_of X G aS1, PySem.W.mg_of X G aS2, PySem.W.mg_of X G aS3, PySem.W.mg_of X G aS4, exm_two xsbB xclB tyB ⟨_, xclE⟩ tyE xEB, XE, kSE, kOS⟩
  have h_offsets : HasD l.prog w K mg base "offsets" ["start", "end", "places"] 1 (g_offsets C) := has_offsets ⟨_, _, fun_mk (st := s_offsets) l0 c0 k0, PySem.W.mg_of X G a0⟩ 
  have h_others_in_box : HasD l.prog w K mg base "others_in_box" ["start", "end", "places"] 1 (g_others_in_box C) := has_others_in_box ⟨_, _, fun_mk (st := s_others_in_box) l1 c1 k1, PySem.W.mg_of X G a1⟩ n_sorted
  have h_path_of : HasD l.prog w K mg base "path_of" ["points", "lines", "edge"] 1 (g_path_of C) := has_path_of ⟨_, _, fun_mk (st := s_path_of) l2 c2 k2, PySem.W.mg_of X G a2⟩ n_list
  have h_are_in_general_position : HasD l.prog w K mg base "are_in_general_position" ["graph", "points", "lines"] 2 (g_are_in_general_position C) := has_are_in_general_position ⟨_, _, fun_mk (st := s_are_in_general_position) l3 c3 k3, PySem.W.mg_of X G a3⟩ n_len n_list n_set n_zip cls na_edges na_vertices h_offsets h_others_in_box h_path_of
  have h_is_coordinate : HasD l.prog w K mg base "is_coordinate" ["value"] 1 (g_is_coordinate C) := has_is_coordinate ⟨_, _, fun_mk (st := s_is_coordinate) l4 c4 k4, PySem.W.mg_of X G a4⟩ n_abs n_bool n_int n_isinstance ⟨_, x_FARTHEST⟩
  have h_is_couple : HasD l.prog w K mg base "is_couple" ["value"] 1 (g_is_couple C) := has_is_couple ⟨_, _, fun_mk (st := s_is_couple) l5 c5 k5, PySem.W.mg_of X G a5⟩ n_isinstance n_len n_tuple
  have h_is_coupleU : HasD l.prog w K mg base "is_couple" ["value"] 1 (g_is_coupleU C) := has_is_coupleU ⟨_, _, fun_mk (st := s_is_couple) l5 c5 k5, PySem.W.mg_of X G a5⟩ n_isinstance n_len n_tuple
  have h_is_place : HasD l.prog w K mg base "is_place" ["value"] 2 (g_is_place C) := has_is_place ⟨_, _, fun_mk (st := s_is_place) l6 c6 k6, PySem.W.mg_of X G a6⟩ h_is_coordinate h_is_couple
  have h_is_row : HasD l.prog w K mg base "is_row" ["value"] 1 (g_is_row C) := has_is_row ⟨_, _, fun_mk (st := s_is_row) l7 c7 k7, PySem.W.mg_of X G a7⟩ n_isinstance n_list n_tuple
  have h_are_bends : HasD l.prog w K mg base "are_bends" ["value"] 3 (g_are_bends C) := has_are_bends ⟨_, _, fun_mk (st := s_are_bends) l8 c8 k8, PySem.W.mg_of X G a8⟩ n_all n_len ⟨_, x_MOST_BENDS⟩ h_is_place h_is_row
  have h_is_among : HasD l.prog w K mg base "is_among" ["vertices", "value"] 1 (g_is_among C) := has_is_among ⟨_, _, fun_mk (st := s_is_among) l9 c9 k9, PySem.W.mg_of X G a9⟩ n_isinstance n_str
  have h_is_amongU : HasD l.prog w K mg base "is_among" ["vertices", "value"] 1 (g_is_amongU C) := has_is_amongU ⟨_, _, fun_mk (st := s_is_among) l9 c9 k9, PySem.W.mg_of X G a9⟩ n_isinstance n_str
  have h_joins : HasD l.prog w K mg base "joins" ["vertices", "value"] 2 (g_joins C) := has_joins ⟨_, _, fun_mk (st := s_joins) l10 c10 k10, PySem.W.mg_of X G a10⟩ h_is_among h_is_couple
  have h_joinsU : HasD l.prog w K mg base "joins" ["vertices", "value"] 2 (g_joinsU C) := has_joinsU ⟨_, _, fun_mk (st := s_joins) l10 c10 k10, PySem.W.mg_of X G a10⟩ h_is_amongU h_is_coupleU
  have h_is_edge : HasD l.prog w K mg base "is_edge" ["graph", "value"] 3 (g_is_edge C) := has_is_edge ⟨_, _, fun_mk (st := s_is_edge) l11 c11 k11, PySem.W.mg_of X G a11⟩ cls na_edges na_vertices h_joins
  have h_is_edgeU : HasD l.prog w K mg base "is_edge" ["graph", "value"] 3 (g_is_edgeU C) := has_is_edgeU ⟨_, _, fun_mk (st := s_is_edge) l11 c11 k11, PySem.W.mg_of X G a11⟩ cls na_edges na_vertices h_joinsU
  have h_are_lines : HasD l.prog w K mg base "are_lines" ["graph", "value"] 4 (g_are_lines C) := has_are_lines ⟨_, _, fun_mk (st := s_are_lines) l12 c12 k12, PySem.W.mg_of X G a12⟩ n_all n_dict n_isinstance n_len cls na_edges h_are_bends h_is_edge
  have h_are_points : HasD l.prog w K mg base "are_points" ["graph", "value"] 3 (g_are_points C) := has_are_points ⟨_, _, fun_mk (st := s_are_points) l13 c13 k13, PySem.W.mg_of X G a13⟩ n_all n_dict n_isinstance n_len cls na_vertices h_is_among h_is_place
  have h_Drawing : HasMk l.prog w K mg base "Drawing" Cd ["self", "graph", "points", "lines"] 5 (g_Drawing C Cd) := has_Drawing ⟨_, _, fun_mk (st := s_Drawing) l14 c14 k14, ⟨mkD, a14, i14, kcD⟩⟩ (PySem.W.mg_of X G aCd) n_tuple cls clsD naD_graph naD_lines naD_points na_edges na_vertices h_are_in_general_position h_are_lines h_are_points
  have h_are_edges : HasD l.prog w K mg base "are_edges" ["vertices", "value"] 3 (g_are_edges C) := has_are_edges ⟨_, _, fun_mk (st := s_are_edges) l15 c15 k15, PySem.W.mg_of X G a15⟩ n_all n_len n_set ⟨_, x_MOST_EDGES⟩ h_is_row h_joins
  have h_is_name : HasD l.prog w K mg base "is_name" ["value"] 1 (g_is_name C) := has_is_name ⟨_, _, fun_mk (st := s_is_name) l16 c16 k16, PySem.W.mg_of X G a16⟩ n_all n_isinstance n_len n_str ⟨_, x_LETTERS⟩ ⟨_, x_LONGEST_NAME⟩
  have h_are_vertices : HasD l.prog w K mg base "are_vertices" ["value"] 2 (g_are_vertices C) := has_are_vertices ⟨_, _, fun_mk (st := s_are_vertices) l17 c17 k17, PySem.W.mg_of X G a17⟩ n_all n_len n_set ⟨_, x_MOST_VERTICES⟩ h_is_name h_is_row
  have h_Graph : HasMk l.prog w K mg base "Graph" C ["self", "vertices", "edges"] 4 (g_Graph C) := has_Graph ⟨_, _, fun_mk (st := s_Graph) l18 c18 k18, ⟨mkC, a18, i18, kcC⟩⟩ (PySem.W.mg_of X G aC) n_sorted n_tuple cls na_edges na_vertices h_are_edges h_are_vertices
  have h__law_next : HasD l.prog w K mg base "_law_next" ["_law_source", "_law_many"] 1 (g__law_next C) := has__law_next ⟨_, _, fun_mk (st := s__law_next) l19 c19 k19, PySem.W.mg_of X G a19⟩ 
  have h__law_one : HasD l.prog w K mg base "_law_one" ["_law_source", "_law_some"] 2 (g__law_one C) := has__law_one ⟨_, _, fun_mk (st := s__law_one) l20 c20 k20, PySem.W.mg_of X G a20⟩ n_len h__law_next
  have h__law_bad_edge : HasD l.prog w K mg base "_law_bad_edge" ["_law_source", "_law_names", "_law_edges"] 3 (g__law_bad_edge C) := has__law_bad_edge ⟨_, _, fun_mk (st := s__law_bad_edge) l21 c21 k21, PySem.W.mg_of X G a21⟩ n_zip h__law_one
  have h__law_cell_at : HasD l.prog w K mg base "_law_cell_at" ["_law_script", "_law_k"] 1 (g__law_cell_at C) := has__law_cell_at ⟨_, _, fun_mk (st := s__law_cell_at) l22 c22 k22, PySem.W.mg_of X G a22⟩ n_len
  have h__law_mixed : HasD l.prog w K mg base "_law_mixed" ["_law_source", "_law_some"] 2 (g__law_mixed C) := has__law_mixed ⟨_, _, fun_mk (st := s__law_mixed) l23 c23 k23, PySem.W.mg_of X G a23⟩ n_len n_list h__law_next
  have h__law_graphC : HasD l.prog w K mg base "_law_graph" ["_law_source", "_law_most"] 3 (g__law_graphC C) := has__law_graph ⟨_, _, fun_mk (st := s__law_graph) l24 c24 k24, PySem.W.mg_of X G a24⟩ n_len n_min h__law_mixed h__law_next h__law_one
  have h_are_opposite : HasD l.prog w K mg base "are_opposite" ["one", "other"] 1 (g_are_opposite C) := has_are_opposite ⟨_, _, fun_mk (st := s_are_opposite) l25 c25 k25, PySem.W.mg_of X G a25⟩ 
  have h_hits : HasD l.prog w K mg base "hits" ["start", "end", "path"] 2 (g_hits C) := has_hits ⟨_, _, fun_mk (st := s_hits) l26 c26 k26, PySem.W.mg_of X G a26⟩ n_enumerate h_are_opposite h_offsets
  have h_crossings : HasD l.prog w K mg base "crossings" ["drawing", "one", "other"] 4 (g_crossings C Cd) := has_crossings ⟨_, _, fun_mk (st := s_crossings) l27 c27 k27, PySem.W.mg_of X G a27⟩ n_sum n_zip clsD naD_graph naD_lines naD_points h_hits h_is_edge h_path_of
  have hX_crossings : HasX l.prog w K mg base "crossings" ["drawing", "one", "other"] 4 (g_crossings C Cd) (gx_crossings C Cd CE) := hasX_crossings ⟨_, _, fun_mk (st := s_crossings) l27 c27 k27, PySem.W.mg_of X G a27⟩ n_sum n_zip clsD naD_graph naD_lines naD_points h_hits h_is_edge h_path_of hE_NoEdge h_is_edgeU
  have h__law_said : HasD l.prog w K mg base "_law_said" ["_law_picture", "_law_one_here", "_law_other"] 5 (g__law_said C Cd) := has__law_said ⟨_, _, fun_mk (st := s__law_said) l28 c28 k28, PySem.W.mg_of X G a28⟩ said hE_NoEdge hX_crossings
  have h__law_source_of : HasD l.prog w K mg base "_law_source_of" ["_law_cell"] 1 (g__law_source_of C) := has__law_source_of ⟨_, _, fun_mk (st := s__law_source_of) l29 c29 k29, PySem.W.mg_of X G a29⟩ n_int
  exact fn_law (fun_mk (st := s_law) l30 c30 k30) n_dict n_enumerate n_range h_Drawing h_Graph h__law_bad_edge h__law_cell_at h__law_graphC h__law_one h__law_said h__law_source_of
theorem walk {l : PySem.W.OpenLaw} {q : Program} {loose : List Str} {XP : (Str → Option Value) → Heap → Prop} {YP : World → Heap → Prop} {d : DefRec} {K : Params → PySem.W.Frag} (hn : l.most = some 63) (hdf : d.params.defaults = [])
    (hY : ∀ (w : World) (h : Heap), YP w h → (K w.params).In h)
    (F : ∀ (w : World) (mg : Str → Option Value) (fa : Addr) (h : Heap), (K w.params).In h → h.Ns mainGlobals mg → mg d.name = some (.ref fa) →
      ∃ fd : FuncData, (∀ (s : Shared) (u : Value), BindsTo s fd ⟨[u], []⟩ [("_law_script", u)]) ∧ ∀ base : Heap, (K w.params).In base → base.Ns mainGlobals mg → FnOk l.prog w (K w.params) mg base CX0 7 fa fd ["_law_script"] (spP ⟨l.prog, w, K w.params⟩ gLaw)) :
    PySem.W.WalkO q loose XP YP l.row.toRowW d [] (fun f vs => PySem.call f vs) :=
  walk_of (n := 63) (k := 7) (x := "_law_script") (CX := fun _ => CX0) (sp := fun w => spP ⟨l.prog, w, K w.params⟩ gLaw) hn (by decide) hdf ⟨rfl, by decide, by decide⟩ hY F (fun w H a ns hl _ hS => law_in hl hS) (fun _ _ _ _ _ h => h.elim)
end CP
open PySem PySem.W PyProof.Rows
set_option maxRecDepth 100000 in
set_option maxHeartbeats 0 in
theorem PySem.Challenge.cw_crossparity_k29_invalid_edges_of_drawing_holds : PySem.Challenge.rw_crossparity_k29_invalid_edges_of_drawing.Holds := by
  w_on; o_law; k_head; (case hw => w_witness2)
  k_fill
  refine CP.walk (l := PySem.Challenge.rw_crossparity_k29_invalid_edges_of_drawing) rfl rfl (fun w h Y => PySem.W.kIn_of Y) ?F
  case F =>
    intro w mg fa h KX G hmg
    refine' CP.all_mk KX G hmg ?aC ?aCd ?a0 ?l0 ?c0 ?k0 ?a1 ?l1 ?c1 ?k1 ?a2 ?l2 ?c2 ?k2 ?a3 ?l3 ?c3 ?k3 ?a4 ?l4 ?c4 ?k4 ?a5 ?l5 ?c5 ?k5 ?a6 ?l6 ?c6 ?k6 ?a7 ?l7 ?c7 ?k7 ?a8 ?l8 ?c8 ?k8 ?a9 ?l9 ?c9 ?k9 ?a10 ?l10 ?c10 ?k10 ?a11 ?l11 ?c11 ?k11 ?a12 ?l12 ?c12 ?k12 ?a13 ?l13 ?c13 ?k13 ?a14 ?i14 ?l14 ?c14 ?k14 ?a15 ?l15 ?c15 ?k15 ?a16 ?l16 ?c16 ?k16 ?a17 ?l17 ?c17 ?k17 ?a18 ?i18 ?l18 ?c18 ?k18 ?a19 ?l19 ?c19 ?k19 ?a20 ?l20 ?c20 ?k20 ?a21 ?l21 ?c21 ?k21 ?a22 ?l22 ?c22 ?k22 ?a23 ?l23 ?c23 ?k23 ?a24 ?l24 ?c24 ?k24 ?a25 ?l25 ?c25 ?k25 ?a26 ?l26 ?c26 ?k26 ?a27 ?l27 ?c27 ?k27 ?a28 ?l28 ?c28 ?k28 ?a29 ?l29 ?c29 ?k29 ?a30 ?l30 ?c30 ?k30 ?pgC ?hdC ?poC ?saC ?mkC ?kcC ?nA_edges ?nA_vertices ?pgD ?hdD ?poD ?saD ?mkD ?kcD ?nAD_graph ?nAD_lines ?nAD_points ?z_abs ?z_all ?z_bool ?z_dict ?z_enumerate ?z_int ?z_isinstance ?z_len ?z_list ?z_min ?z_range ?z_set ?z_sorted ?z_str ?z_sum ?z_tuple ?z_zip ?y_FARTHEST ?y_LETTERS ?y_LONGEST_NAME ?y_MOST_BENDS ?y_MOST_EDGES ?y_MOST_VERTICES ?aE ?aEI ?tEI ?lEI ?cEI ?kEI ?oxE ?rvE ?saE ?tyE ?kpE ?fnE ?xclE ?xgaE ?xggE ?xsbE ?xhdE ?xssE ?sgD ?tkD ?aB ?aS0 ?kS0 ?aS1 ?kS1 ?aS2 ?kS2 ?aS3 ?kS3 ?aS4 ?kS4 ?kSE ?xclB ?xsbB ?tyB ?xEB ?xcaE ?xmoE
    (case aC => k_is)
    (case aCd => k_is)
    (case a0 => k_is)
    (case l0 => k_is)
    (case c0 => k_is)
    (case k0 => k_is)
    (case a1 => k_is)
    (case l1 => k_is)
    (case c1 => k_is)
    (case k1 => k_is)
    (case a2 => k_is)
    (case l2 => k_is)
    (case c2 => k_is)
    (case k2 => k_is)
    (case a3 => k_is)
    (case l3 => k_is)
    (case c3 => k_is)
    (case k3 => k_is)
    (case a4 => k_is)
    (case l4 => k_is)
    (case c4 => k_is)
    (case k4 => k_is)
    (case a5 => k_is)
    (case l5 => k_is)
    (case c5 => k_is)
    (case k5 => k_is)
    (case a6 => k_is)
    (case l6 => k_is)
    (case c6 => k_is)
    (case k6 => k_is)
    (case a7 => k_is)
    (case l7 => k_is)
    (case c7 => k_is)
    (case k7 => k_is)
    (case a8 => k_is)
    (case l8 => k_is)
    (case c8 => k_is)
    (case k8 => k_is)
    (case a9 => k_is)
    (case l9 => k_is)
    (case c9 => k_is)
    (case k9 => k_is)
    (case a10 => k_is)
    (case l10 => k_is)
    (case c10 => k_is)
    (case k10 => k_is)
    (case a11 => k_is)
    (case l11 => k_is)
    (case c11 => k_is)
    (case k11 => k_is)
    (case a12 => k_is)
    (case l12 => k_is)
    (case c12 => k_is)
    (case k12 => k_is)
    (case a13 => k_is)
    (case l13 => k_is)
    (case c13 => k_is)
    (case k13 => k_is)
    (case a14 => k_is)
    (case i14 => k_is)
    (case l14 => k_is)
    (case c14 => k_is)
    (case k14 => k_is)
    (case a15 => k_is)
    (case l15 => k_is)
    (case c15 => k_is)
    (case k15 => k_is)
    (case a16 => k_is)
    (case l16 => k_is)
    (case c16 => k_is)
    (case k16 => k_is)
    (case a17 => k_is)
    (case l17 => k_is)
    (case c17 => k_is)
    (case k17 => k_is)
    (case a18 => k_is)
    (case i18 => k_is)
    (case l18 => k_is)
    (case c18 => k_is)
    (case k18 => k_is)
    (case a19 => k_is)
    (case l19 => k_is)
    (case c19 => k_is)
    (case k19 => k_is)
    (case a20 => k_is)
    (case l20 => k_is)
    (case c20 => k_is)
    (case k20 => k_is)
    (case a21 => k_is)
    (case l21 => k_is)
    (case c21 => k_is)
    (case k21 => k_is)
    (case a22 => k_is)
    (case l22 => k_is)
    (case c22 => k_is)
    (case k22 => k_is)
    (case a23 => k_is)
    (case l23 => k_is)
    (case c23 => k_is)
    (case k23 => k_is)
    (case a24 => k_is)
    (case l24 => k_is)
    (case c24 => k_is)
    (case k24 => k_is)
    (case a25 => k_is)
    (case l25 => k_is)
    (case c25 => k_is)
    (case k25 => k_is)
    (case a26 => k_is)
    (case l26 => k_is)
    (case c26 => k_is)
    (case k26 => k_is)
    (case a27 => k_is)
    (case l27 => k_is)
    (case c27 => k_is)
    (case k27 => k_is)
    (case a28 => k_is)
    (case l28 => k_is)
    (case c28 => k_is)
    (case k28 => k_is)
    (case a29 => k_is)
    (case l29 => k_is)
    (case c29 => k_is)
    (case k29 => k_is)
    (case a30 => k_is)
    (case l30 => k_is)
    (case c30 => k_is)
    (case k30 => k_is)
    (case pgC => k_is)
    (case hdC => k_is)
    (case poC => k_is)
    (case saC => k_is)
    (case mkC => k_is)
    (case kcC => k_is)
    (case nA_edges => k_is)
    (case nA_vertices => k_is)
    (case pgD => k_is)
    (case hdD => k_is)
    (case poD => k_is)
    (case saD => k_is)
    (case mkD => k_is)
    (case kcD => k_is)
    (case nAD_graph => k_is)
    (case nAD_lines => k_is)
    (case nAD_points => k_is)
    (case z_abs => k_is)
    (case z_all => k_is)
    (case z_bool => k_is)
    (case z_dict => k_is)
    (case z_enumerate => k_is)
    (case z_int => k_is)
    (case z_isinstance => k_is)
    (case z_len => k_is)
    (case z_list => k_is)
    (case z_min => k_is)
    (case z_range => k_is)
    (case z_set => k_is)
    (case z_sorted => k_is)
    (case z_str => k_is)
    (case z_sum => k_is)
    (case z_tuple => k_is)
    (case z_zip => k_is)
    (case y_FARTHEST => k_is)
    (case y_LETTERS => k_is)
    (case y_LONGEST_NAME => k_is)
    (case y_MOST_BENDS => k_is)
    (case y_MOST_EDGES => k_is)
    (case y_MOST_VERTICES => k_is)
    (case aE => k_is)
    (case aEI => k_is)
    (case tEI => k_is)
    (case lEI => k_is)
    (case cEI => k_is)
    (case kEI => k_is)
    (case oxE => k_is)
    (case rvE => decide +kernel)
    (case saE => k_is)
    (case tyE => k_is)
    (case kpE => k_is)
    (case fnE => k_is)
    (case xclE => k_is)
    (case xgaE => k_is)
    (case xggE => k_is)
    (case xsbE => k_is)
    (case xhdE => k_is)
    (case xssE => k_is)
    (case sgD => k_is)
    (case tkD => k_is)
    (case aB => k_is)
    (case aS0 => k_is)
    (case kS0 => kit_is)
    (case aS1 => k_is)
    (case kS1 => kit_is)
    (case aS2 => k_is)
    (case kS2 => kit_is)
    (case aS3 => k_is)
    (case kS3 => kit_is)
    (case aS4 => k_is)
    (case kS4 => kit_is)
    (case kSE => kit_is)
    (case xclB => k_is)
    (case xsbB => k_is)
    (case tyB => k_is)
    (case xEB => k_is)
    (case xcaE => k_is)
    (case xmoE => k_is)

