import PyProof.Rows.All
import Wide.All
import OpenK.AllK
import Wide.FinOn
import HandS.ForMost
import HandS.TupSets
import HandS.Strs
import HandS.IsInst
import HandS.Walk
import KE.SortData
import KE.GoesMore
import HandS.Style
import KE.DataMinMax
import KE.DataEq
import PyProof.ReprRoads
import HandS.ExcInit
import HandS.ExcOwn
import HandS.ExcBuiltin
import HandS.ExcField
import KE.KExcIs
import HandS.WordsExc
import HandS.Dict
import KE.RegKIsAll
import PySem.Challenge.RW_crossparity_k49_pairs_flipped_by_a_carry
set_option Elab.async false
set_option linter.all false
set_option maxRecDepth 100000
set_option maxHeartbeats 4000000
/-! Tables of sets with up to 512 places -/
namespace CP
open PySem PySem.Spec PyProof.Rows L2
def MaskG (m : Nat) : Prop := m = 7 ∨ m = 31 ∨ m = 127 ∨ m = 511
/-- the numbers met from 0, as bits -/
def met (m : Nat) : Nat → Nat → Nat → Nat
  | 0, _, acc => acc
  | k + 1, c, acc => met m k ((c * 5 + 1) % (m + 1)) (acc ||| 2 ^ c)
theorem met_bit (m : Nat) : ∀ (k a acc j : Nat), (met m k (lcgN m a) acc).testBit j = true → acc.testBit j = true ∨ ∃ b, a ≤ b ∧ b < a + k ∧ lcgN m b = j
  | 0, a, acc, j, h => .inl h
  | k + 1, a, acc, j, h => by
    have h' : (met m k (lcgN m (a + 1)) (acc ||| 2 ^ lcgN m a)).testBit j = true := h
    rcases met_bit m k (a + 1) _ j h' with c | ⟨b, b1, b2, b3⟩
    · rw [Nat.testBit_or, Bool.or_eq_true] at c
      rcases c with c | c
      · exact .inl c
      · rw [Nat.testBit_two_pow] at c
        exact .inr ⟨a, Nat.le_refl _, by omega, of_decide_eq_true c⟩
    · exact .inr ⟨b, by omega, by omega, b3⟩
theorem met_all {m : Nat} (hm : MaskG m) : met m (m + 1) 0 0 = 2 ^ (m + 1) - 1 := by
  rcases hm with rfl | rfl | rfl | rfl <;> decide +kernel
theorem met_back {m : Nat} (hm : MaskG m) : lcgN m (m + 1) = 0 := by
  rcases hm with rfl | rfl | rfl | rfl <;> decide +kernel
theorem odd_mask {m : Nat} (hm : MaskG m) : m % 2 = 1 := by
  rcases hm with rfl | rfl | rfl | rfl <;> rfl
theorem from0 {m : Nat} (hm : MaskG m) {j : Nat} (hj : j ≤ m) : ∃ b, b ≤ m ∧ lcgN m b = j := by
  have e : (met m (m + 1) (lcgN m 0) 0).testBit j = true := by
    show (met m (m + 1) 0 0).testBit j = true
    rw [met_all hm, Nat.testBit_two_pow_sub_one]
    exact decide_eq_true (by omega)
  rcases met_bit m (m + 1) 0 0 j e with c | ⟨b, _, b2, b3⟩
  · simp at c
  · exact ⟨b, by omega, b3⟩
theorem again {m : Nat} (hm : MaskG m) : ∀ k, lcgN m (m + 1 + k) = lcgN m k
  | 0 => met_back hm
  | k + 1 => by
    have ih := again hm k
    show ((lcgN m (m + 1 + k)) * 5 + 1) % (m + 1) = ((lcgN m k) * 5 + 1) % (m + 1)
    rw [ih]
theorem from_any {m : Nat} (hm : MaskG m) {i j : Nat} (hi : i ≤ m) (hj : j ≤ m) : ∃ k, k ≤ m ∧ lcgI m i k = j := by
  obtain ⟨a, ha, rfl⟩ := from0 hm hi
  obtain ⟨b, hb, rfl⟩ := from0 hm hj
  by_cases c : a ≤ b
  · exact ⟨b - a, by omega, by rw [lcgN_add, Nat.add_sub_cancel' c]⟩
  · refine ⟨m + 1 + b - a, by omega, ?_⟩
    rw [lcgN_add, Nat.add_sub_cancel' (by omega), again hm]
theorem runs_meet {m : Nat} (hm : MaskG m) (h : Int) {j : Nat} (hj : j ≤ m) : ∃ n, n ≤ m + 12 ∧ runI m (SetTable.bits h) n = j := by
  obtain ⟨k, hk, rfl⟩ := from_any hm (runI_le m (SetTable.bits h) 12) hj
  refine ⟨12 + k, by omega, runI_tail (bits_lt h) k⟩
theorem way_most (m : Nat) (h : Int) (k : Nat) : way m h k ≤ m := by
  have a : SetTable.bits h % (m + 1) ≤ m := Nat.le_of_lt_succ (Nat.mod_lt _ (Nat.succ_pos _))
  have r := runEnd_bd a
  have q := nth_in (m := m) k (runAt m (SetTable.bits h % (m + 1)) (SetTable.bits h))
  have q := q (by show SetTable.bits h % (m + 1) + (SetTable.runEnd m (SetTable.bits h % (m + 1)) - SetTable.bits h % (m + 1)) ≤ m; omega)
  exact Nat.le_trans (Nat.le_add_right _ _) q
theorem ways_meet {m : Nat} (hm : MaskG m) (h : Int) {j : Nat} (hj : j ≤ m) : ∃ k, k < 10 * SetTable.turns m ∧ way m h k = j := by
  obtain ⟨n, hn, e⟩ := runs_meet hm h hj
  obtain ⟨k, hk, q⟩ := run_nth m (SetTable.bits h) n
  refine ⟨k, by unfold SetTable.turns; omega, ?_⟩
  unfold way; rw [q]; exact e
/-- a table in which each place is met from its hash -/
structure TabG (t : SetTable) (hs : List Int) : Prop where
  ris : Ris t.place.toList
  dm : t.dummies = #[]
  sz : t.place.size = hs.length
  mok : MaskG t.mask
  bd : ∀ x ∈ t.place.toList, x ≤ t.mask
  reach : ∀ (i : Nat) (g : Int) (j : Nat), hs[i]? = some g → t.place.toList[i]? = some j → ∃ k, way t.mask g k = j ∧ ∀ c, c < k → way t.mask g c ∈ t.place.toList
theorem TabG.first {t : SetTable} {hs : List Int} (T : TabG t hs) (hl : hs.length ≤ t.mask) (g : Int) : ∃ K, K < 10 * SetTable.turns t.mask ∧ way t.mask g K ∉ t.place.toList ∧ ∀ c, c < K → way t.mask g c ∈ t.place.toList := by
  obtain ⟨j, hj, free⟩ := st_missing t.place.toList (t.mask + 1) (by have := T.sz; rw [Array.length_toList]; omega)
  obtain ⟨k, hk, e⟩ := ways_meet T.mok g (Nat.le_of_lt_succ hj)
  obtain ⟨K, k1, k2, k3⟩ := st_least (p := fun c => way t.mask g c ∉ t.place.toList) k (by rw [e]; exact free)
  exact ⟨K, by omega, k2, fun c hc => Classical.not_not.mp (k3 c hc)⟩
theorem TabG.before {t : SetTable} {hs : List Int} (T : TabG t hs) {g : Int} {K i j : Nat} (hK : way t.mask g K ∉ t.place.toList) (hi : hs[i]? = some g) (hj : t.place.toList[i]? = some j) : ∃ k, k < K ∧ way t.mask g k = j := by
  obtain ⟨k, e, all⟩ := T.reach i g j hi hj
  by_cases c : k < K
  · exact ⟨k, c, e⟩
  · exfalso
    by_cases d : K = k
    · rw [d, e] at hK; exact hK (List.mem_of_getElem? hj)
    · exact hK (all K (by omega))
theorem TabG.put {t : SetTable} {hs : List Int} (T : TabG t hs) {g : Int} {K : Nat} (hK : way t.mask g K ∉ t.place.toList) (occ : ∀ c, c < K → way t.mask g c ∈ t.place.toList) :
    ∃ n, n = SetTable.below t.place (way t.mask g K) ∧ (t.put (way t.mask g K)).2 = n ∧ n ≤ hs.length ∧ TabG (t.put (way t.mask g K)).1 (hs.take n ++ g :: hs.drop n) ∧ (t.put (way t.mask g K)).1.mask = t.mask ∧ (t.put (way t.mask g K)).1.fill = hs.length + 1 := by
  have top := way_most t.mask g K
  generalize hj : way t.mask g K = j at hK top
  obtain ⟨c1, _, _⟩ := below_cut T.ris j
  have lenp : t.place.toList.length = hs.length := by have := T.sz; rw [Array.length_toList]; exact this
  have nl : SetTable.below t.place j ≤ hs.length := by rw [← T.sz]; exact c1
  have new : t.place[SetTable.below t.place j]? ≠ some j := fun e => hK (List.mem_of_getElem? (i := SetTable.below t.place j) (by rw [Array.getElem?_toList]; exact e))
  have lay := put_place t j
  have size : (t.put j).1.place.size = hs.length + 1 := by rw [← Array.length_toList, lay, len_ins _ (by omega), lenp]
  have stay : ∀ {x : Nat}, x ∈ t.place.toList → x ∈ (t.put j).1.place.toList := fun hx => by rw [lay]; exact mem_ins.mpr (.inr hx)
  refine ⟨SetTable.below t.place j, rfl, rfl, nl, ⟨ris_insert T.ris new, put_dm T.dm j, by rw [len_ins _ nl]; exact size, T.mok, fun x hx => ?_, fun i g' j' h1 h2 => ?_⟩, rfl, ?_⟩
  · rw [lay] at hx
    rcases mem_ins.mp hx with rfl | hx
    · exact top
    · exact T.bd x hx
  · rw [lay, tins_get _ (by omega)] at h2
    rw [tins_get hs nl] at h1
    show ∃ k, way t.mask g' k = j' ∧ ∀ c, c < k → way t.mask g' c ∈ (t.put j).1.place.toList
    by_cases a : i < SetTable.below t.place j
    · rw [if_pos a] at h1 h2
      obtain ⟨k, e, q⟩ := T.reach i g' j' h1 h2
      exact ⟨k, e, fun c hc => stay (q c hc)⟩
    · rw [if_neg a] at h1 h2
      by_cases b : i = SetTable.below t.place j
      · rw [if_pos b] at h1 h2
        obtain rfl : g = g' := Option.some.inj h1
        obtain rfl : j = j' := Option.some.inj h2
        exact ⟨K, hj, fun c hc => stay (occ c hc)⟩
      · rw [if_neg b] at h1 h2
        obtain ⟨k, e, q⟩ := T.reach (i - 1) g' j' h1 h2
        exact ⟨k, e, fun c hc => stay (q c hc)⟩
  · show (t.put j).1.place.size + (t.put j).1.dummies.size = hs.length + 1
    rw [size, put_dm T.dm j]; rfl
/-! ### a table laid anew -/
theorem free_met {m : Nat} (hm : MaskG m) (owner : Array (Option Nat)) (g : Int) {j : Nat} (hj : j ≤ m) (hf : oAt owner j = none) :
    ∃ K, SetTable.layClean.free m owner (SetTable.turns m) (SetTable.bits g % (m + 1)) (SetTable.bits g) = some (way m g K) ∧ oAt owner (way m g K) = none ∧ ∀ c, c < K → oAt owner (way m g c) ≠ none := by
  obtain ⟨n, hn, e⟩ := runs_meet hm g hj
  have there : way m g (off m (SetTable.bits g % (m + 1)) (SetTable.bits g) n) = j := by
    unfold way; rw [nth_off, itL_run]; exact e
  obtain ⟨K, k1, k2, k3⟩ := st_least (p := fun c => oAt owner (way m g c) = none) _ (by rw [there]; exact hf)
  refine ⟨K, free_spec m owner (SetTable.turns m) n _ _ K (by unfold SetTable.turns; omega) k1 (fun c hc => ?_) ?_, k2, k3⟩
  · have q := k3 c hc
    cases z : oAt owner (way m g c) with
    | none => exact absurd z q
    | some x => rfl
  · show (oAt owner (way m g K)).isNone = true
    rw [k2]; rfl
theorem own_step {m : Nat} (hm : MaskG m) {done : List Int} {owner : Array (Option Nat)} (W : Own m done owner) (hl : done.length ≤ m) (g : Int) :
    ∃ j, SetTable.layClean.free m owner (SetTable.turns m) (SetTable.bits g % (m + 1)) (SetTable.bits g) = some j ∧ Own m (done ++ [g]) (owner.setIfInBounds j (some done.length)) := by
  obtain ⟨ps, lps, inps⟩ := W.ps
  obtain ⟨z, z1, z2⟩ := st_missing ps (m + 1) (by omega)
  have zf : oAt owner z = none := by
    cases q : oAt owner z with
    | none => rfl
    | some x => exact absurd (inps z (Nat.le_of_lt_succ z1) (by rw [q]; intro u; cases u)) z2
  obtain ⟨K, e1, e2, e3⟩ := free_met hm owner g (Nat.le_of_lt_succ z1) zf
  have top := way_most m g K
  generalize hj : way m g K = j at e1 e2 top
  have insz : j < owner.size := by rw [W.sz]; omega
  have me := oAt_set_self (some done.length) insz
  have grow : ∀ {i : Nat}, oAt owner i ≠ none → oAt (owner.setIfInBounds j (some done.length)) i ≠ none := fun {i} hi => by
    by_cases c : i = j
    · rw [c, me]; intro u; cases u
    · rw [oAt_set_ne _ c]; exact hi
  refine ⟨j, e1, by rw [Array.size_setIfInBounds]; exact W.sz, fun i k hi e => ?_, fun k hk => ?_, j :: ps, by rw [List.length_cons, List.length_append, lps]; rfl, fun i hi e => ?_⟩
  · by_cases c : i = j
    · rw [c, me] at e
      obtain rfl : done.length = k := Option.some.inj e
      exact ⟨g, K, by rw [List.getElem?_append_right (Nat.le_refl _), Nat.sub_self]; rfl, by rw [c]; exact hj, fun c hc => grow (e3 c hc)⟩
    · rw [oAt_set_ne _ c] at e
      obtain ⟨g', K', a1, a2, a3⟩ := W.at_ i k hi e
      exact ⟨g', K', by rw [List.getElem?_append_left (List.getElem?_eq_some_iff.mp a1).1]; exact a1, a2, fun c hc => grow (a3 c hc)⟩
  · by_cases c : k < done.length
    · obtain ⟨i, hi, e⟩ := W.all k c
      exact ⟨i, hi, by rw [oAt_set_ne _ (fun u => by rw [u, e2] at e; cases e)]; exact e⟩
    · have ek : k = done.length := by rw [List.length_append] at hk; simp at hk; omega
      exact ⟨j, top, by rw [ek]; exact me⟩
  · by_cases c : i = j
    · rw [c]; exact List.mem_cons_self
    · rw [oAt_set_ne _ c] at e
      exact List.mem_cons_of_mem _ (inps i hi e)
theorem own_all {m : Nat} (hm : MaskG m) : ∀ (rest done : List Int) (owner : Array (Option Nat)), Own m done owner → done.length + rest.length ≤ m → ∃ o2, rest.foldl (stepF m) (some (owner, done.length)) = some (o2, done.length + rest.length) ∧ Own m (done ++ rest) o2
  | [], done, owner, W, _ => ⟨owner, rfl, by rw [List.append_nil]; exact W⟩
  | g :: rest, done, owner, W, hl => by
    simp only [List.length_cons] at hl
    obtain ⟨j, e, W2⟩ := own_step hm W (by omega) g
    have l2 : (done ++ [g]).length = done.length + 1 := by simp
    obtain ⟨o2, f, W3⟩ := own_all hm rest (done ++ [g]) _ W2 (by omega)
    refine ⟨o2, ?_, by rw [List.append_assoc] at W3; exact W3⟩
    rw [l2] at f
    rw [List.foldl_cons, stepF_some e, f, List.length_cons]
    congr 2; omega
theorem laid_all {m : Nat} (hm : MaskG m) {hs : Array Int} (hn : hs.size ≤ m) : ∃ owner, SetTable.layClean m hs = some owner ∧ Own m hs.toList owner := by
  obtain ⟨o2, f, W⟩ := own_all hm hs.toList [] _ (Own.init m) (by simp; exact hn)
  refine ⟨o2, ?_, W⟩
  rw [layClean_eq]
  have f' : hs.toList.foldl (stepF m) (some (Array.replicate (m + 1) none, 0)) = _ := f
  rw [f']; rfl
theorem laid_anew (t : SetTable) {hs : Array Int} {wanted M : Nat} (hw : SetTable.sizeAbove wanted - 1 = M) (hM : MaskG M) (hn : hs.size ≤ M) :
    ∃ t' order, t.relaid hs wanted = some (t', order) ∧ order.toList.Perm (List.range hs.size) ∧ TabG t' (order.toList.map fun i => hs.getD i 0) ∧ t'.mask = M := by
  obtain ⟨owner, e, W⟩ := laid_all hM hn
  have r0 : t.relaid hs wanted = some (tabOf t M owner, ((liveOf M owner).map (·.2)).toArray) := by rw [relaid_eq, hw, e]; rfl
  obtain ⟨r1, r2⟩ : Ris ((liveOf M owner).map (·.1)) ∧ ∀ x ∈ (liveOf M owner).map (·.1), x ∈ List.range (M + 1) :=
    ris_live (fun j => owner.getD j none) (List.range (M + 1)) (by unfold Ris; exact List.pairwise_lt_range)
  have live : ∀ {j k : Nat}, (j, k) ∈ liveOf M owner ↔ j ≤ M ∧ oAt owner j = some k := mem_live W.sz
  have numb : ∀ k, k < hs.size → k ∈ (liveOf M owner).map (·.2) := fun k hk => by
    obtain ⟨j, b1, b2⟩ := W.all k (by rw [Array.length_toList]; exact hk)
    exact List.mem_map.mpr ⟨(j, k), live.mpr ⟨b1, b2⟩, rfl⟩
  have len : ((liveOf M owner).map (·.2)).length = hs.size := by
    obtain ⟨ps, p1, p2⟩ := W.ps
    have once : ((liveOf M owner).map (·.1)).Nodup := List.Pairwise.imp (fun h => Nat.ne_of_lt h) r1
    have up := nat_nodup_len ((liveOf M owner).map (·.1)) ps once fun x hx => by
      obtain ⟨⟨y, k⟩, hq, rfl⟩ := List.mem_map.mp hx
      obtain ⟨b1, b2⟩ := live.mp hq
      exact p2 y b1 (by rw [b2]; intro u; cases u)
    have down := nat_nodup_len (List.range hs.size) ((liveOf M owner).map (·.2)) List.nodup_range fun k hk => numb k (List.mem_range.mp hk)
    rw [List.length_range] at down
    rw [List.length_map] at up down ⊢
    have z : hs.toList.length = hs.size := rfl
    omega
  refine ⟨_, _, r0, perm_range hs.size _ len numb, ⟨r1, rfl, ?_, hM, fun x hx => Nat.le_of_lt_succ (List.mem_range.mp (r2 x hx)), fun i g j h1 h2 => ?_⟩, rfl⟩
  · show ((liveOf M owner).map (·.1)).toArray.size = (((liveOf M owner).map (·.2)).map _).length
    simp
  · have h1 : (((liveOf M owner).map (·.2)).map fun i => hs.getD i 0)[i]? = some g := h1
    have h2 : ((liveOf M owner).map (·.1))[i]? = some j := h2
    rw [List.map_map, List.getElem?_map] at h1
    rw [List.getElem?_map] at h2
    cases q : (liveOf M owner)[i]? with
    | none => rw [q] at h2; cases h2
    | some y =>
      obtain ⟨y, k⟩ := y
      rw [q] at h1 h2
      obtain rfl : y = j := Option.some.inj h2
      have eg : hs.getD k 0 = g := Option.some.inj h1
      obtain ⟨b1, b2⟩ := live.mp (List.mem_of_getElem? q)
      obtain ⟨g0, K, a1, a2, a3⟩ := W.at_ y k b1 b2
      have e0 : hs.getD k 0 = g0 := by rw [Array.getD_eq_getD_getElem?, ← Array.getElem?_toList, a1]; rfl
      obtain rfl : g0 = g := e0.symm.trans eg
      refine ⟨K, a2, fun c hc => ?_⟩
      show way M g0 c ∈ (liveOf M owner).map (·.1)
      cases z : oAt owner (way M g0 c) with
      | none => exact absurd z (a3 c hc)
      | some k2 => exact List.mem_map.mpr ⟨(way M g0 c, k2), live.mpr ⟨way_most M g0 c, z⟩, rfl⟩
theorem above_5 : SetTable.sizeAbove (SetTable.grown 5) = 32 := by decide +kernel
theorem above_19 : SetTable.sizeAbove (SetTable.grown 19) = 128 := by decide +kernel
theorem above_77 : SetTable.sizeAbove (SetTable.grown 77) = 512 := by decide +kernel
end CP
/-! Sets whose elements are objects compared by value (tuples of texts, tuples of such tuples): set(xs), s.add(x), x in s, len(s). -/
namespace CP
open PySem PySem.Spec PyProof.Rows L2

/-- how objects serve as keys: key k stands at address a; its hash; == , hash and the two quiet questions -/
structure KF (P : Program) (w : World) (κ : Type) [DecidableEq κ] where
  At : Heap → κ → Addr → Prop
  hs : κ → Int
  eqb : ∀ {A : Around} {E : Value → Shared → Prop} {s : Shared} {x y : κ} {a b : Addr} {Q : Bool → Shared → Prop}, A.units + 8 < cLine → At s.heap x a → At s.heap y b → Q (decide (x = y)) s → wpAny (model P w) A (eqBool (.ref a) (.ref b)) Q E s
  seen : ∀ {A : Around} {E : Value → Shared → Prop} {s : Shared} {x : κ} {b : Addr} {Q : Bool → Shared → Prop} {ys : List Value}, At s.heap x b → (∀ y ∈ ys, ∃ z c, y = Value.ref c ∧ At s.heap z c) → Q false s → wpAny (model P w) A (searchCouldBeSeen (.ref b) ys) Q E s
  hby : ∀ {A : Around} {E : Value → Shared → Prop} {s : Shared} {x : κ} {b : Addr} {Q : Bool → Shared → Prop}, At s.heap x b → (∀ v, Q v s) → wpAny (model P w) A (hashByValue 8 (.ref b)) Q E s
  pyh : ∀ {A : Around} {E : Value → Shared → Prop} {s : Shared} {x : κ} {b : Addr} {Q : Int → Shared → Prop}, A.units + 8 < cLine → At s.heap x b → (∀ n, Q (hs x) { s with toks := s.toks + n }) → wpAny (model P w) A (pyHash (.ref b)) Q E s
  other : ∀ {h h' : Heap} {x : κ} {a b : Addr} {o : Obj} {es : Array (Int × Value)} {ep : Nat} {t : SetTable}, At h x b → h.get? a = some o → o.data = .set es ep t → Heap.SameBut a h h' → At h' x b
  kept : ∀ {h h' : Heap} {x : κ} {b : Addr}, At h x b → (∀ c o, h.get? c = some o → h'.get? c = some o) → At h' x b

variable {P : Program} {w : World} {κ : Type} [DecidableEq κ] {F : KF P w κ} {A : Around} {E : Value → Shared → Prop} {s : Shared}

def rowsK (F : KF P w κ) (L : List (Addr × κ)) : List (Int × Value) := L.map fun p => (F.hs p.2, Value.ref p.1)
def hsK (F : KF P w κ) (L : List (Addr × κ)) : List Int := L.map fun p => F.hs p.2

/-- at a stands a set whose elements are the objects L, no two keys alike -/
structure SK (F : KF P w κ) (h : Heap) (a : Addr) (L : List (Addr × κ)) (es : Array (Int × Value)) (ep : Nat) (t : SetTable) : Prop where
  obj : ∃ o, h.get? a = some o ∧ o.ExactSet ∧ o.data = .set es ep t
  row : es.toList = rowsK F L
  tab : TabG t (hsK F L)
  nod : (L.map (·.2)).Nodup
  ats : ∀ p ∈ L, F.At h p.2 p.1
  roo : L.length * 5 < t.mask * 3
  few : L.length < 250

section
variable {a : Addr} {L : List (Addr × κ)} {es : Array (Int × Value)} {ep : Nat} {t : SetTable}
theorem rowsK_len : (rowsK F L).length = L.length := List.length_map ..
theorem hsK_len : (hsK F L).length = L.length := List.length_map ..
theorem size_of_rows (e : es.toList = rowsK F L) : es.size = L.length := by
  rw [← Array.length_toList, e, rowsK_len]
theorem SK.size (R : SK F s.heap a L es ep t) : es.size = L.length := size_of_rows R.row
theorem entry_of_rows (e : es.toList = rowsK F L) {i : Nat} {p : Addr × κ} (hp : L[i]? = some p) : es[i]? = some (F.hs p.2, Value.ref p.1) := by
  rw [← Array.getElem?_toList, e, rowsK, List.getElem?_map, hp]; rfl
theorem fits_by (h1 : t.place.size = es.size) (h2 : t.dummies = #[]) (h3 : es.size ≤ t.mask) : t.fits es.size = true := by
  simp only [SetTable.fits, SetTable.fill, h2, Bool.and_eq_true, beq_iff_eq, decide_eq_true_eq]
  exact ⟨h1, by rw [h1]; exact h3⟩
theorem SK.fit (R : SK F s.heap a L es ep t) : t.fits es.size = true := by
  have q := R.tab.sz; rw [hsK_len] at q
  have r := R.size; have u := R.roo
  exact fits_by (by omega) R.tab.dm (by omega)
theorem SK.odd (R : SK F s.heap a L es ep t) : ¬ t.gaveWay = true := by
  simp only [SetTable.gaveWay, odd_mask R.tab.mok]; decide
theorem nth_dummy (m : Nat) : ∀ (n : Nat) (p : SetTable.Probe), p.dummy = none → (nth m p n).dummy = none
  | 0, _, e => e
  | n + 1, p, e => nth_dummy m n (adv m p) (by unfold adv; split <;> exact e)

/-- the walk's start for a hash -/
abbrev st0 (m : Nat) (h : Int) : SetTable.Probe := runAt m (SetTable.bits h % (m + 1)) (SetTable.bits h)

/-- looking for k, from the c-th place of its way on; K is the first empty place -/
theorem look_from (R : SK F s.heap a L es ep t) {x : Addr} {k : κ} (hx : F.At s.heap k x) (room : A.units + 8 < cLine) {K : Nat} (lim : K < 10 * SetTable.turns t.mask)
    (fre : way t.mask (F.hs k) K ∉ t.place.toList) (occ : ∀ c, c < K → way t.mask (F.hs k) c ∈ t.place.toList) {Q : SetFound → Shared → Prop}
    {ad : Bool} (yes : ∀ r : Option Nat, r.isSome = !ad → k ∈ L.map (·.2) → Q (.there r) s) (no : k ∉ L.map (·.2) → Q (.free (way t.mask (F.hs k) K) false) s) :
    ∀ (f c : Nat) (st : Option SetTable.Probe), st.getD (t.probeStart (F.hs k)) = nth t.mask (st0 t.mask (F.hs k)) c → c ≤ K → K - c < f →
      (∀ (i : Nat) p, L[i]? = some p → p.2 = k → ∃ d, c ≤ d ∧ d < K ∧ t.place.toList[i]? = some (way t.mask (F.hs k) d)) →
      wpAny (model P w) A (setSearchFrom a (.ref x) (F.hs k) ad f st) Q E s
  | 0, _, _, _, _, z, _ => absurd z (Nat.not_lt_zero _)
  | f + 1, c, st, est, hc, hf, rest => by
    obtain ⟨o, ob1, _, ob2⟩ := R.obj
    rw [setSearchFrom_succ]
    refine wpAny_bind (wpAny_setState_of ob1 ob2 R.fit ?_); dsimp only
    refine wp_if_neg R.odd ?_
    try refine wpAny_bind (wpAny_pure ?_)
    have shift : ∀ q, nth t.mask (nth t.mask (st0 t.mask (F.hs k)) c) q = nth t.mask (st0 t.mask (F.hs k)) (c + q) := fun q => (nth_add t.mask c _ q).symm
    have place : ∀ q, (nth t.mask (nth t.mask (st0 t.mask (F.hs k)) c) q).j = way t.mask (F.hs k) (c + q) := fun q => congrArg SetTable.Probe.j (shift q)
    have look := go_spec t R.tab.ris R.tab.dm (fun i => (es[i]?.map (·.1)).getD 0) (F.hs k) (10 * SetTable.turns t.mask) (K - c) _ (nth_dummy t.mask c (st0 t.mask (F.hs k)) rfl) (by omega)
      (fun q hq => by rw [place]; exact occ (c + q) (by omega)) (by rw [place, Nat.add_sub_cancel' hc]; exact fre)
    have hashOf : ∀ (i : Nat) p, L[i]? = some p → (es[i]?.map (·.1)).getD 0 = F.hs p.2 := fun i p hp => by rw [entry_of_rows R.row hp]; rfl
    rcases look with ⟨q, i, hq, hi, _, none_before, ans⟩ | ⟨none_before, ans⟩
    · have ans' : t.probe (fun i => (es[i]?.map (·.1)).getD 0) (F.hs k) (st.getD (t.probeStart (F.hs k))) = some (.candidate (way t.mask (F.hs k) (c + q)) i (nth t.mask (st0 t.mask (F.hs k)) (c + (q + 1)))) := by
        rw [est, ← place, ← shift]; exact ans
      rw [ans']; dsimp only
      rw [place] at hi
      have inL : i < L.length := by
        have u := (List.getElem?_eq_some_iff.mp hi).1
        have v := R.tab.sz; rw [hsK_len] at v; rw [Array.length_toList] at u; omega
      obtain ⟨p, hp⟩ : ∃ p, L[i]? = some p := ⟨_, List.getElem?_eq_getElem inL⟩
      have pL : p ∈ L := List.mem_of_getElem? hp
      have go_on : wpAny (model P w) A (searchRest a (.ref x) (F.hs k) ad f es t (way t.mask (F.hs k) (c + q)) i (nth t.mask (st0 t.mask (F.hs k)) (c + (q + 1)))) Q E s := by
        unfold searchRest
        rw [entry_of_rows R.row hp]; dsimp only
        refine wpAny_bind (wpAny_holding (F.eqb room (R.ats p pL) hx ?_))
        refine wpAny_bind (wpAny_setState_of ob1 ob2 R.fit ?_); dsimp only
        by_cases same : p.2 = k
        · cases ad with
          | true => refine wp_if_pos (by simp [same]) (wpAny_pure (yes none rfl (List.mem_map.mpr ⟨p, pL, same⟩)))
          | false =>
            refine wp_if_neg (by simp) ?_
            try refine wpAny_bind (wpAny_pure ?_)
            rw [sameMem]; dsimp only
            have live := slot_live R.tab.ris hi
            simp only [if_true, live, entry_of_rows R.row hp]
            refine wpAny_bind (wpAny_isSame_ref_self (wpAny_bind (wpAny_pure ?_)))
            simp only [if_true]
            refine wp_if_pos (by simp [same]) (wpAny_pure (yes (some i) rfl (List.mem_map.mpr ⟨p, pL, same⟩)))
        · refine wp_if_neg (by simp [same]) ?_
          try refine wpAny_bind (wpAny_pure ?_)
          rw [sameMem]; dsimp only
          have live := slot_live R.tab.ris hi
          simp only [if_true, live, entry_of_rows R.row hp]
          refine wpAny_bind (wpAny_isSame_ref_self (wpAny_bind (wpAny_pure ?_)))
          simp only [if_true]
          refine wp_if_neg (by simp [same]) (look_from R hx room lim fre occ yes no f (c + (q + 1)) _ rfl (by omega) (by omega) fun j r hj er => ?_)
          obtain ⟨d, d1, d2, d3⟩ := rest j r hj er
          refine ⟨d, ?_, d2, d3⟩
          rcases Nat.lt_trichotomy d (c + q) with lt | eq | gt
          · exact absurd ((hashOf j r hj).trans (congrArg F.hs er)) (none_before (d - c) j (by omega) (by rw [place, Nat.add_sub_cancel' d1]; exact d3))
          · rw [eq] at d3
            have l2 := slot_live R.tab.ris d3
            rw [live] at l2; injection l2 with l2
            rw [← l2, hp] at hj
            exact absurd ((congrArg Prod.snd (Option.some.inj hj)).trans er) same
          · omega
      by_cases led : t.led = true
      · refine wp_if_neg (by simp [led]) ?_
        try refine wpAny_bind (wpAny_pure ?_)
        exact go_on
      · refine wp_if_pos (by simp [led]) (wpAny_bind (F.seen hx (fun y hy => ?_) ?_))
        · obtain ⟨r, hr, rfl⟩ := List.mem_map.mp hy
          have hr1 : r ∈ es.toList := by
            have : r ∈ es ∧ r.1 = F.hs k := by simpa using hr
            simpa using this.1
          rw [R.row] at hr1
          obtain ⟨p2, hp2, rfl⟩ := List.mem_map.mp hr1
          exact ⟨p2.2, p2.1, rfl, R.ats p2 hp2⟩
        · refine wp_if_neg (by decide) ?_
          try refine wpAny_bind (wpAny_pure ?_)
          exact go_on
    · have ans' : t.probe (fun i => (es[i]?.map (·.1)).getD 0) (F.hs k) (st.getD (t.probeStart (F.hs k))) = some (.empty (way t.mask (F.hs k) K) none) := by
        have e2 := place (K - c); rw [Nat.add_sub_cancel' hc] at e2
        rw [est, ← e2]; exact ans
      rw [ans']; dsimp only
      refine wpAny_pure (no fun hm => ?_)
      obtain ⟨r, hr, er⟩ := List.mem_map.mp hm
      obtain ⟨j, hj⟩ := List.getElem?_of_mem hr
      obtain ⟨d, d1, d2, d3⟩ := rest j r hj er
      exact none_before (d - c) j (by omega) (by rw [place, Nat.add_sub_cancel' d1]; exact d3) ((hashOf j r hj).trans (congrArg F.hs er))

theorem look_for (R : SK F s.heap a L es ep t) {x : Addr} {k : κ} (hx : F.At s.heap k x) (room : A.units + 8 < cLine) {Q : SetFound → Shared → Prop} {ad : Bool} (yes : ∀ r : Option Nat, r.isSome = !ad → k ∈ L.map (·.2) → Q (.there r) s)
    (no : ∀ K, k ∉ L.map (·.2) → way t.mask (F.hs k) K ∉ t.place.toList → (∀ c, c < K → way t.mask (F.hs k) c ∈ t.place.toList) → Q (.free (way t.mask (F.hs k) K) false) s) :
    wpAny (model P w) A (setSearch a (.ref x) (F.hs k) ad) Q E s := by
  have u := R.roo
  obtain ⟨K, lim, fre, occ⟩ := R.tab.first (by rw [hsK_len]; omega) (F.hs k)
  have small : 10 * SetTable.turns t.mask ≤ 5260 := by
    unfold SetTable.turns; rcases R.tab.mok with e | e | e | e <;> omega
  unfold setSearch
  refine look_from R hx room lim fre occ yes (fun z => no K z fre occ) 100000 0 none rfl (Nat.zero_le _) (by omega) fun i p hp ek => ?_
  have hh : (hsK F L)[i]? = some (F.hs k) := by rw [hsK, List.getElem?_map, hp, ← ek]; rfl
  have hl : i < t.place.toList.length := by
    have v := R.tab.sz; rw [hsK_len] at v
    have u := (List.getElem?_eq_some_iff.mp hp).1; rw [Array.length_toList]; omega
  obtain ⟨c, c1, c2⟩ := R.tab.before fre hh (List.getElem?_eq_getElem hl)
  exact ⟨c, Nat.zero_le _, c1, by rw [List.getElem?_eq_getElem hl, c2]⟩
end
section
variable {a : Addr} {L : List (Addr × κ)} {es : Array (Int × Value)} {ep : Nat} {t : SetTable}
theorem pick_rows (L : List (Addr × κ)) (e : es.toList = rowsK F L) : ∀ l : List Nat, (∀ i ∈ l, i < L.length) →
    l.filterMap (fun i => es[i]?) = rowsK F (l.filterMap fun i => L[i]?) ∧ hsK F (l.filterMap fun i => L[i]?) = l.map fun i => (es.map (·.1)).getD i 0
  | [], _ => ⟨rfl, rfl⟩
  | i :: l, hl => by
    have hi := hl i List.mem_cons_self
    obtain ⟨p, hp⟩ : ∃ p, L[i]? = some p := ⟨_, List.getElem?_eq_getElem hi⟩
    obtain ⟨e1, e2⟩ := pick_rows L e l fun j hj => hl j (List.mem_cons_of_mem _ hj)
    have q := entry_of_rows e hp
    have q2 : (es.map (·.1)).getD i 0 = F.hs p.2 := by
      rw [Array.getD_eq_getD_getElem?, Array.getElem?_map, q]; rfl
    refine ⟨?_, ?_⟩
    · rw [List.filterMap_cons_some q, List.filterMap_cons_some hp, e1]; rfl
    · rw [List.filterMap_cons_some hp, List.map_cons, q2, ← e2]; rfl
theorem pick_all {α : Type} (L : List α) : ∀ n, n ≤ L.length → (List.range n).filterMap (fun i => L[i]?) = L.take n
  | 0, _ => rfl
  | n + 1, hn => by
    rw [List.range_succ, List.filterMap_append, pick_all L n (Nat.le_of_lt hn), List.take_succ, List.filterMap_cons, List.getElem?_eq_getElem hn]; rfl
theorem pick_perm {α : Type} (L : List α) {l : List Nat} (h : l.Perm (List.range L.length)) : (l.filterMap fun i => L[i]?).Perm L := by
  have q := h.filterMap fun i => L[i]?
  rw [pick_all L _ (Nat.le_refl _), List.take_length] at q
  exact q

/-- is k in it -/
theorem find_in (R : SK F s.heap a L es ep t) {x : Addr} {k : κ} (hx : F.At s.heap k x) (room : A.units + 8 < cLine) {Q : Option Nat → Shared → Prop} (hQ : ∀ r : Option Nat, r.isSome = decide (k ∈ L.map (·.2)) → Q r s) :
    wpAny (model P w) A (setFind a (.ref x) (F.hs k)) Q E s := by
  obtain ⟨o, ob1, obx, ob2⟩ := R.obj
  unfold setFind
  rw [show (100000 : Nat) = 99999 + 1 from rfl]
  unfold setFindIn
  refine wpAny_bind (wpAny_setState_of ob1 ob2 R.fit ?_); dsimp only
  refine wp_if_neg (by simp [byScan, Value.scannable]) ?_
  try refine wpAny_bind (wpAny_pure ?_)
  refine wpAny_bind (look_for R hx room (fun r hr hm => ?_) fun K hm fre occ => ?_)
  · exact wpAny_pure (hQ r (by rw [hr, decide_eq_true hm]; rfl))
  · exact wpAny_pure (hQ none (by rw [decide_eq_false hm]; rfl))

/-- the table laid anew, with more places -/
theorem lay_anew {o : Obj} (ob1 : s.heap.get? a = some o) (obx : o.ExactSet) (ob2 : o.data = .set es ep t) (row : es.toList = rowsK F L) (pz : t.place.size = es.size) (dm : t.dummies = #[]) (le : es.size ≤ t.mask)
    (nod : (L.map (·.2)).Nodup) (ats : ∀ p ∈ L, F.At s.heap p.2 p.1) (few : L.length < 250) {n M : Nat} (hM : SetTable.sizeAbove n - 1 = M) (ok : MaskG M) (most : SetTable.sizeAbove n ≤ 512) (roo : L.length * 5 < M * 3) {Q : Unit → Shared → Prop}
    (hQ : ∀ h' L' es' ep' t', Heap.SameBut a s.heap h' → SK F h' a L' es' ep' t' → L'.Perm L → Q () { s with heap := h' }) : wpAny (model P w) A (setRelay a n) Q E s := by
  have sz := size_of_rows row
  obtain ⟨t', ord, er, pm, T, em⟩ := laid_anew t (hs := es.map (·.1)) (wanted := n) hM ok (by rw [Array.size_map, sz]; omega)
  rw [Array.size_map, sz] at pm
  obtain ⟨r1, r2⟩ := pick_rows L row ord.toList fun i hi => List.mem_range.mp (pm.mem_iff.mp hi)
  have pL := pick_perm L pm
  rw [← r2] at T
  generalize (ord.toList.filterMap fun i => L[i]?) = L2 at r1 r2 pL T
  have r3 : (ord.filterMap (es[·]?)).toList = rowsK F L2 := by rw [← r1]; simp
  have z2 : (ord.filterMap (es[·]?)).size = es.size := by rw [size_of_rows r3, pL.length_eq, sz]
  rw [setRelay_eq]
  refine wpAny_bind (wpAny_setState_of ob1 ob2 (fits_by pz dm le) ?_); dsimp only
  refine wp_if_neg (by rw [sizeLine_eq]; omega) ?_
  try refine wpAny_bind (wpAny_pure ?_)
  rw [er]; dsimp only
  refine wpAny_bind (wp_if_neg (by rw [z2]; simp) ?_)
  try refine wpAny_bind (wpAny_pure ?_)
  refine wpAny_pure ?_; dsimp only
  refine wpAny_storeSet_of ob1 ob2 ?_ (by rw [z2, sz, sizeLine_eq]; omega)
  have sb : Heap.SameBut a s.heap (s.heap.update a (Obj.putSet (ord.filterMap (es[·]?)) t')) := Heap.SameBut.update ..
  exact hQ _ L2 _ _ _ sb ⟨⟨_, store_at ob1 ob2, ⟨obx.1, obx.2.1, obx.2.2⟩, rfl⟩, r3, T, (pL.map (·.2)).nodup_iff.mpr nod, fun p hp => F.other (ats p (pL.mem_iff.mp hp)) ob1 ob2 sb, by rw [pL.length_eq, em]; exact roo, by rw [pL.length_eq]; exact few⟩ pL

def marked (v : Bool) (t : SetTable) : SetTable := if v = true then t else { t with plain := false }
theorem plainly (v : Bool) {hs : List Int} (T : TabG t hs) : TabG (marked v t) hs := by
  cases v
  · exact ⟨T.ris, T.dm, T.sz, T.mok, T.bd, T.reach⟩
  · exact T
theorem marked_mask (v : Bool) (t : SetTable) : (marked v t).mask = t.mask := by cases v <;> rfl
theorem marked_fill (v : Bool) (t : SetTable) : (marked v t).fill = t.fill := by cases v <;> rfl
theorem by_value {β : Type} {x : Addr} {k : κ} (hx : F.At s.heap k x) {f : Bool → Sem β} {Q : β → Shared → Prop} (h : ∀ v, wpAny (model P w) A (f v) Q E s) : wpAny (model P w) A (if t.plain = true then (hashByValue 8 (.ref x) >>= f) else (pure true >>= f)) Q E s := by
  by_cases c : t.plain = true
  · exact wp_if_pos c (wpAny_bind (F.hby hx h))
  · exact wp_if_neg c (wpAny_bind (wpAny_pure (h true)))
/-- one element more -/
theorem put_in (R : SK F s.heap a L es ep t) {x : Addr} {k : κ} (hx : F.At s.heap k x) (room : A.units + 8 < cLine) (fewer : L.length + 1 < 250) {Q : Bool → Shared → Prop}
    (hQ : ∀ b h' L' es' ep' t', Heap.SameBut a s.heap h' → SK F h' a L' es' ep' t' → (k ∈ L.map (·.2) → L' = L) → (k ∉ L.map (·.2) → L'.Perm ((x, k) :: L)) → Q b { s with heap := h' }) :
    wpAny (model P w) A (setAddHashed a (.ref x) (F.hs k)) Q E s := by
  obtain ⟨o, ob1, obx, ob2⟩ := R.obj
  have sz := R.size
  have roo := R.roo
  unfold setAddHashed
  refine wpAny_holding ?_
  rw [show (100000 : Nat) = 99999 + 1 from rfl, setAddHashedIn_succ]
  refine wpAny_bind (wpAny_setState_of ob1 ob2 R.fit ?_); dsimp only
  refine wp_if_neg (by simp [byScan, Value.scannable]) ?_
  try refine wpAny_bind (wpAny_pure ?_)
  refine wpAny_bind (look_for R hx room (fun r hr hm => ?_) fun K hm fre occ => ?_)
  · exact wpAny_pure (hQ false s.heap L es ep t (Heap.SameBut.refl a s.heap) R (fun _ => rfl) fun z => absurd hm z)
  · dsimp only
    refine wpAny_bind (wpAny_setState_of ob1 ob2 R.fit ?_); dsimp only
    obtain ⟨n0, q0, q1, q2, q3, q4, q9⟩ := R.tab.put fre occ
    generalize t.put (way t.mask (F.hs k) K) = pt at q1 q3 q4 q9 ⊢
    obtain ⟨t1, n⟩ := pt
    dsimp only at q1 q3 q4 q9 ⊢
    subst q1
    refine by_value hx fun v => ?_
    replace q3 := plainly v q3
    replace q4 : (marked v t1).mask = t.mask := (marked_mask v t1).trans q4
    replace q9 : (marked v t1).fill = _ := (marked_fill v t1).trans q9
    show wpAny _ _ (storeSet a _ (marked v t1) >>= fun _ => if (!false && (marked v t1).tooFull) = true then (setRelay a _ >>= fun _ => pure true) else pure true) _ _ _
    generalize marked v t1 = t1 at q3 q4 q9 ⊢
    clear q0
    have pm := put_perm L n (x, k)
    have row1 : (SetTable.insertAt es n (F.hs k, Value.ref x)).toList = rowsK F (L.take n ++ (x, k) :: L.drop n) := by
      rw [SetTable.toList_insertAt, R.row]
      simp only [rowsK, List.map_append, List.map_cons, List.map_take, List.map_drop]
    have hh1 : hsK F (L.take n ++ (x, k) :: L.drop n) = (hsK F L).take n ++ F.hs k :: (hsK F L).drop n := by
      simp only [hsK, List.map_append, List.map_cons, List.map_take, List.map_drop]
    rw [← hh1] at q3
    have nod1 : ((L.take n ++ (x, k) :: L.drop n).map (·.2)).Nodup := (pm.map (·.2)).nodup_iff.mpr (by rw [List.map_cons]; exact List.nodup_cons.mpr ⟨hm, R.nod⟩)
    generalize SetTable.insertAt es n (F.hs k, Value.ref x) = es1 at row1 ⊢
    generalize L.take n ++ (x, k) :: L.drop n = L1 at pm q3 nod1 row1
    have len1 : L1.length = L.length + 1 := pm.length_eq
    have sz1 : es1.size = L.length + 1 := (size_of_rows row1).trans len1
    refine wpAny_bind (wpAny_storeSet_of ob1 ob2 ?_ (by rw [sz1, sizeLine_eq]; omega))
    have sb : Heap.SameBut a s.heap (s.heap.update a (Obj.putSet es1 t1)) := Heap.SameBut.update ..
    have ob3 := store_at (es' := es1) (t' := t1) ob1 ob2
    generalize s.heap.update a (Obj.putSet es1 t1) = h1 at sb ob3 ⊢
    have ats1 : ∀ p ∈ L1, F.At h1 p.2 p.1 := fun p hp => by
      rcases List.mem_cons.mp (pm.mem_iff.mp hp) with rfl | hp
      · exact F.other hx ob1 ob2 sb
      · exact F.other (R.ats p hp) ob1 ob2 sb
    have full : t1.tooFull = decide ((L.length + 1) * 5 ≥ t1.mask * 3) := by
      unfold SetTable.tooFull; rw [q9, hsK_len]
    by_cases hf : (L.length + 1) * 5 ≥ t1.mask * 3
    · rw [full, decide_eq_true hf]
      first
        | (refine wpAny_bind ?_; refine wp_if_pos (by simp) ?_)
        | (refine wp_if_pos (by simp) ?_; refine wpAny_bind ?_)
      rw [sz]
      have pz1 : t1.place.size = es1.size := by have v := q3.sz; rw [hsK_len, len1] at v; rw [v, sz1]
      have two : (t.mask = 7 ∧ L.length = 4) ∨ (t.mask = 31 ∧ L.length = 18) ∨ (t.mask = 127 ∧ L.length = 76) := by
        rw [q4] at hf
        rcases R.tab.mok with e | e | e | e <;> rw [e] at hf roo
        · exact .inl ⟨e, by omega⟩
        · exact .inr (.inl ⟨e, by omega⟩)
        · exact .inr (.inr ⟨e, by omega⟩)
        · omega
      have more : ∀ M, SetTable.sizeAbove (SetTable.grown (L.length + 1)) - 1 = M → MaskG M → SetTable.sizeAbove (SetTable.grown (L.length + 1)) ≤ 512 → (L.length + 1) * 5 < M * 3 →
          wpAny (model P w) A (setRelay a (SetTable.grown (L.length + 1))) (fun _ s' => wpAny (model P w) A (pure true) Q E s') E { s with heap := h1 } := fun M m1 m2 m3 m4 =>
        lay_anew (s := { s with heap := h1 }) ob3 ⟨obx.1, obx.2.1, obx.2.2⟩ rfl row1 pz1 q3.dm (by rw [sz1, q4]; rcases two with ⟨e, e2⟩ | ⟨e, e2⟩ | ⟨e, e2⟩ <;> omega) nod1 ats1 (by rw [len1]; exact fewer) m1 m2 m3 (by rw [len1]; exact m4)
          fun h2 L2 es2 ep2 t2 sb2 R2 pm2 => wpAny_pure (hQ true h2 L2 es2 ep2 t2 (sb.trans sb2) R2 (fun z => absurd z hm) fun _ => pm2.trans pm)
      rcases two with ⟨_, e2⟩ | ⟨_, e2⟩ | ⟨_, e2⟩
      · exact more 31 (by rw [e2, above_5]) (.inr (.inl rfl)) (by rw [e2, above_5]; decide) (by omega)
      · exact more 127 (by rw [e2, above_19]) (.inr (.inr (.inl rfl))) (by rw [e2, above_19]; decide) (by omega)
      · exact more 511 (by rw [e2, above_77]) (.inr (.inr (.inr rfl))) (by rw [e2, above_77]; decide) (by omega)
    · rw [full, decide_eq_false hf]
      first
        | refine wp_if_neg (by simp) ?_
        | (refine wpAny_bind ?_; refine wp_if_neg (by simp) ?_; refine wpAny_pure ?_)
      exact wpAny_pure (hQ true h1 L1 es1 (ep + 1) t1 sb ⟨⟨_, ob3, ⟨obx.1, obx.2.1, obx.2.2⟩, rfl⟩, row1, q3, nod1, ats1, by rw [len1]; omega, by rw [len1]; exact fewer⟩ (fun z => absurd z hm) fun _ => pm)
end
section
/-- what the set has from the first i of ks -/
structure Has (ks : List (Addr × κ)) (i : Nat) (L : List (Addr × κ)) : Prop where
  sub : ∀ p ∈ L, p ∈ ks.take i
  all : ∀ p ∈ ks.take i, p.2 ∈ L.map (·.2)
  len : L.length ≤ i
  full : (ks.map (·.2)).Nodup → L.length = i
  once : L.length = i → ((ks.take i).map (·.2)).Nodup
theorem take_one {α : Type} {l : List α} {i : Nat} {x : α} (h : l[i]? = some x) : l.take (i + 1) = l.take i ++ [x] := by rw [List.take_succ, h]; rfl
theorem Has.none (ks : List (Addr × κ)) : Has ks 0 [] := ⟨(fun _ z => nomatch z), (fun _ z => by simp at z), Nat.le_refl _, fun _ => rfl, fun _ => List.nodup_nil⟩
theorem Has.next {ks L L' : List (Addr × κ)} {i : Nat} {x : Addr × κ} (g : Has ks i L) (hx : ks[i]? = some x) (c1 : x.2 ∈ L.map (·.2) → L' = L) (c2 : x.2 ∉ L.map (·.2) → L'.Perm (x :: L)) : Has ks (i + 1) L' := by
  by_cases c : x.2 ∈ L.map (·.2)
  · rw [c1 c]
    refine ⟨fun p hp => ?_, fun p hp => ?_, Nat.le_succ_of_le g.len, fun nd => ?_, fun z => absurd z (Nat.ne_of_lt (Nat.lt_succ_of_le g.len))⟩
    · rw [take_one hx]; exact List.mem_append_left _ (g.sub p hp)
    · rw [take_one hx] at hp
      rcases List.mem_append.mp hp with z | z
      · exact g.all p z
      · rw [List.mem_singleton.mp z]; exact c
    · exfalso
      obtain ⟨p, hp, e⟩ := List.mem_map.mp c
      obtain ⟨j, hj⟩ := List.getElem?_of_mem (g.sub p hp)
      have hji : j < i := Nat.lt_of_lt_of_le (List.getElem?_eq_some_iff.mp hj).1 (List.length_take_le _ _)
      rw [List.getElem?_take_of_lt hji] at hj
      have a1 : (ks.map (·.2))[j]? = some x.2 := by rw [List.getElem?_map, hj, ← e]; rfl
      have a2 : (ks.map (·.2))[i]? = some x.2 := by rw [List.getElem?_map, hx]; rfl
      obtain ⟨b1, e1⟩ := List.getElem?_eq_some_iff.mp a1
      obtain ⟨b2, e2⟩ := List.getElem?_eq_some_iff.mp a2
      exact (List.pairwise_iff_getElem.mp nd) j i b1 b2 hji (e1.trans e2.symm)
  · have pm := c2 c
    refine ⟨fun p hp => ?_, fun p hp => ?_, by rw [pm.length_eq]; exact Nat.succ_le_succ g.len, fun nd => by rw [pm.length_eq, List.length_cons, g.full nd], fun z => ?_⟩
    · rw [take_one hx]
      rcases List.mem_cons.mp (pm.mem_iff.mp hp) with rfl | z
      · exact List.mem_append_right _ (List.mem_singleton.mpr rfl)
      · exact List.mem_append_left _ (g.sub p z)
    · rw [(pm.map (·.2)).mem_iff, List.map_cons]
      rw [take_one hx] at hp
      rcases List.mem_append.mp hp with z | z
      · exact List.mem_cons_of_mem _ (g.all p z)
      · rw [List.mem_singleton.mp z]; exact List.mem_cons_self
    · rw [pm.length_eq, List.length_cons] at z
      have nd := g.once (by omega)
      rw [take_one hx, List.map_append]
      refine List.nodup_append.mpr ⟨nd, by simp, fun y hy y' hy' e => c ?_⟩
      simp at hy'
      obtain ⟨p, hp, ep⟩ := List.mem_map.mp hy
      rw [← hy', ← e, ← ep]; exact g.all p hp
theorem SK.kept {h h' : Heap} {a : Addr} {L : List (Addr × κ)} {es : Array (Int × Value)} {ep : Nat} {t : SetTable} (R : SK F h a L es ep t) (ha : ∀ o, h.get? a = some o → h'.get? a = some o) (ht : ∀ p ∈ L, F.At h' p.2 p.1) : SK F h' a L es ep t := by
  obtain ⟨o, ob, r⟩ := R.obj
  exact ⟨⟨o, ha o ob, r⟩, R.row, R.tab, R.nod, ht, R.roo, R.few⟩
theorem SK.new {h : Heap} {a : Addr} {b : Bool} (ho : h.get? a = some { cls := .type "set", dict := none, data := .set #[] 0 (.fresh 0 0 b) }) : SK F h a [] #[] 0 (.fresh 0 0 b) :=
  ⟨⟨_, ho, ⟨rfl, rfl, rfl⟩, rfl⟩, rfl, ⟨List.Pairwise.nil, rfl, rfl, .inl rfl, fun _ z => (by cases z), fun _ _ _ z => (by simp [hsK] at z)⟩, List.nodup_nil, fun _ z => (by cases z), (by show 0 * 5 < 7 * 3; decide), (by show 0 < 250; decide)⟩

end
end CP
namespace CP
open PySem PySem.Spec PyProof.Rows L2
variable {P : Program} {w : World} {A : Around} {E : Value → Shared → Prop} {s : Shared}
section
variable {a : Addr}
/-- what a set filled item by item holds: J i h, «behind i items», S its place, h0 the heap ahead -/
structure Fills (P : Program) (w : World) (u : Nat) (E : Value → Shared → Prop) (S : Addr) (items : Array Value) (h0 : Heap) (J : Nat → Heap → Prop) : Prop where
  zero : ∀ (h : Heap) (b : Bool), h.get? S = some { cls := .type "set", dict := none, data := .set #[] 0 (.fresh 0 0 b) } → (∀ c o, h0.get? c = some o → h.get? c = some o) → J 0 h
  keep : ∀ (i : Nat) (h h' : Heap), J i h → (∀ o, h.get? S = some o → h'.get? S = some o) → (∀ c o, h0.get? c = some o → h'.get? c = some o) → J i h'
  step : ∀ (A' : Around) (i : Nat) (v : Value) (s' : Shared), A'.units ≤ u → items[i]? = some v → J i s'.heap → (∀ c o, h0.get? c = some o → s'.heap.get? c = some o) → ∀ Q : Bool → Shared → Prop,
    (∀ (b : Bool) (h' : Heap) (n : Nat), Heap.SameBut S s'.heap h' → J (i + 1) h' → Q b { s' with heap := h', toks := s'.toks + n }) → wpAny (model P w) A' (setAdd S v) Q E s'

theorem fills_loop {I : Addr} {fp wr : List Addr} {G : Array GenState → Array GenState → Prop} {items : Array Value} {St : Nat → Shared → Prop} {R : Result → Shared → Prop} {u : Nat} {h0 : Heap} {J : Nat → Heap → Prop} {S : Addr}
    (W : WalksS P w A.in1 I fp wr G items.size (fun i v => items[i]? = some v) St) (off : S ∉ fp) (freeS : h0.get? S = none) (freeW : ∀ b ∈ wr, h0.get? b = none) (hu : A.in1.units ≤ u)
    (T : ∀ E, Fills P w u E S items h0 J) :
    ∀ (k i : Nat) (s : Shared), items.size - i = k → i ≤ items.size → St i s → (∀ b o, h0.get? b = some o → s.heap.get? b = some o) → J i s.heap →
      (∀ s', Moved (S :: wr) G s s' → J items.size s'.heap → (∀ b o, h0.get? b = some o → s'.heap.get? b = some o) → R (.ok (.ret .none)) s') →
      codeAny (model P w) A (.builtin "set.update.loop" ⟨[.ref S, .ref I], []⟩) R s := by
  have offW : S ∉ wr := fun z => off (W.sub _ z)
  have wider : ∀ b ∈ wr, b ∈ S :: wr := fun b => List.mem_cons_of_mem _
  have still : ∀ {s s' : Shared}, Moved wr G s s' → (∀ b o, h0.get? b = some o → s.heap.get? b = some o) → ∀ b o, h0.get? b = some o → s'.heap.get? b = some o := fun m q b o e =>
    m.heap b o (fun z => by rw [freeW b z] at e; cases e) (q b o e)
  intro k
  induction k with
  | zero =>
    intro i s hk' hi hst hkp hJ hR
    obtain rfl : i = items.size := by omega
    refine codeAny_builtin PyProof.Rows.F.entry_set_update_loop ?_
    rw [Around.under_plainId PyProof.Rows.F.plain_set_update_loop _]
    show wpAny _ A.in1 (pyNext (.ref I) >>= _) _ _ s
    refine wpAny_bind (W.done s _ _ hst fun s' m => ?_)
    show wpAny _ A.in1 (ret Value.none) _ _ s'
    exact wpAny_pure (hR s' (m.mono wider) ((T (fun _ _ => False)).keep _ _ _ hJ (fun o e => m.heap S o offW e) (still m hkp)) (still m hkp))
  | succ k ih =>
    intro i s hk' hi hst hkp hJ hR
    have lt : i < items.size := by omega
    refine codeAny_builtin PyProof.Rows.F.entry_set_update_loop ?_
    rw [Around.under_plainId PyProof.Rows.F.plain_set_update_loop _]
    show wpAny _ A.in1 (pyNext (.ref I) >>= _) _ _ s
    refine wpAny_bind (W.item i s _ _ lt hst fun v s' pv hst' m => ?_)
    have q := still m hkp
    show wpAny _ A.in1 (holding [v] (setAdd S v) >>= _) _ _ s'
    refine wpAny_bind (wpAny_holding ((T _).step A.in1 i v s' hu pv ((T (fun _ _ => False)).keep _ _ _ hJ (fun o e => m.heap S o offW e) q) q _ fun b h' tn sb J' => ?_))
    have q2 : ∀ b o, h0.get? b = some o → h'.get? b = some o := fun b o e => (sb.2 b (fun z => by rw [z, freeS] at e; cases e)).trans (q b o e)
    refine wpAny_pure ⟨plainId_quiet PyProof.Rows.F.plain_set_update_loop _, ih (i + 1) _ (by omega) lt (W.frame _ s' _ _ hst' (Nat.le_add_right _ _) fun b hb o e => ?_) q2 J' fun s'' m'' J'' q'' => ?_⟩
    · rw [sb.2 b (fun z : b = S => off (z ▸ hb))]; exact e
    · refine hR s'' (Moved.trans W.gtrans ((m.mono wider).then_heap (Nat.le_add_right _ _) fun b o hb e => ?_) m'') J'' q''
      rw [sb.2 b (fun z : b = S => hb (by rw [z]; exact List.mem_cons_self))]; exact e

abbrev newSet (w : World) : Obj := { cls := .type "set", dict := none, data := .set #[] 0 (.fresh 0 0 (!w.params.followText "set-order")) }
theorem free_above {h : Heap} {b : Addr} (hb : h.objs.size ≤ b) : h.get? b = none := by
  cases q : h.get? b with
  | none => rfl
  | some o => exact absurd (Nat.lt_of_lt_of_le (Heap.lt_size q) hb) (Nat.lt_irrefl _)
/-- set(xs), xs a list or a tuple -/
theorem set_of_seq {l : Addr} {items : Array Value} {Q : Value → Shared → Prop} {J : Nat → Heap → Prop} {ty it : String} {od : Option Addr} {nl : Nat} {os : Array (Option Value)} {St : Addr → Nat → Heap → Prop}
    (hol : s.heap.get? l = some { cls := .type ty, dict := od, data := .seq items nl, slots := os }) (n1 : isSubtype (.type ty) (.type "set") = pure false) (n2 : isSubtype (.type ty) (.type "frozenset") = pure false) (n3 : (Value.type ty == Value.type "dict") = false)
    (beg : ∀ {A : Around} {E : Value → Shared → Prop} {s1 : Shared} {Q : Value → Shared → Prop}, s1.heap.get? l = some { cls := .type ty, dict := od, data := .seq items nl, slots := os } → Q (.ref s1.heap.objs.size) { s1 with heap := s1.heap.push { cls := .type it, data := .fields #[.ref l, .int 0 0] } } → wpAny (model P w) A (pyIter (.ref l)) Q E s1)
    (W : ∀ I, l ≠ I → Walks P w A.in1.in1.in1 I [I, l] [I] items.size (fun i v => items[i]? = some v) (St I))
    (St0 : ∀ h : Heap, h.get? l = some { cls := .type ty, dict := od, data := .seq items nl, slots := os } → St h.objs.size 0 (h.push { cls := .type it, data := .fields #[.ref l, .int 0 0] })) (T : ∀ E, Fills P w (A.units + 3) E s.heap.objs.size items s.heap J)
    (h : ∀ (h' : Heap) (tk : Nat), J items.size h' → (∀ b o, s.heap.get? b = some o → h'.get? b = some o) → Q (.ref s.heap.objs.size) { s with heap := h', toks := tk }) :
    wpAny (model P w) A (call (.type "set") [.ref l]) Q E s := by
  obtain ⟨c, tl, m1⟩ := PySem.F.called_set.mro
  have m2 := PySem.F.called_set.made
  have m3 := PySem.F.called_set.sub
  refine wpAny_call (codeAny_of_tree ?_); show wpAny _ _ (callAny (.type "set") _) _ _ _
  refine wpAny_pure ⟨Code.quiet_builtin _ (by decide +kernel), codeAny_builtin PySem.F.entry_type_call ?_⟩
  rw [Around.under_plain (weight_type_call_type "set" [.ref l] []) rfl]
  have m4 := PySem.F.called_set.notType
  have m5 := PySem.F.called_set.canCreate
  have m6 := PySem.F.typeCall_set_1 (.ref l)
  repeat (any_goals (first | assumption | wp_step))
  refine codeAny_mono (code_set_led1 (.ref l) (E := E) (Q₁ := fun v s₁ => v = .ref s.heap.objs.size ∧ s₁ = { s with heap := s.heap.push (newSet w) }) ⟨rfl, rfl⟩) fun r s₁ hr => ?_
  cases r with
  | error e => exact hr
  | ok fl =>
    cases fl with
    | ret obj =>
      obtain ⟨rfl, rfl⟩ := hr
      have atS : (s.heap.push (newSet w)).get? s.heap.objs.size = some (newSet w) := Heap.get?_push_size _ rfl
      have tyS : Shared.TypeIs { s with heap := s.heap.push (newSet w) } (.ref s.heap.objs.size) "set" := ⟨_, atS, rfl⟩
      have m7 := PySem.F.called_set.init.lookup
      have m8 := PySem.F.called_set.init.bind (.ref s.heap.objs.size)
      repeat (any_goals (first | assumption | wp_step))
      refine codeAny_mono (codeAny_call_builtin (R := wants (fun r s₂ => r = .none ∧ ∃ h' tk, s₂ = { s with heap := h', toks := tk } ∧ J items.size h' ∧ (∀ b o, s.heap.get? b = some o → h'.get? b = some o)) E)
        PySem.F.called_set.init.plain PySem.F.entry_set_init (check_set_init_1 tyS ?_)) fun r₂ s₂ hr₂ => ?_
      · have hol' : (s.heap.push (newSet w)).get? l = some { cls := .type ty, dict := od, data := .seq items nl, slots := os } := Heap.get?_push_of_some _ hol
        unfold Builtin.«set.__init__» noKeywords Builtin.Frozenset.updateFrom
        generalize hPI : pyIter = PI
        wp_walk
        subst hPI
        refine beg hol' (wpAny_bind (wpAny_runValue ?_))
        have ll : l < s.heap.objs.size := Heap.lt_size hol
        have nI : l ≠ (s.heap.push (newSet w)).objs.size := by rw [Heap.size_push]; exact Nat.ne_of_lt (Nat.lt_succ_of_lt ll)
        have off : s.heap.objs.size ∉ [(s.heap.push (newSet w)).objs.size, l] := by
          rw [Heap.size_push]; simp only [List.mem_cons, List.not_mem_nil, or_false, not_or]
          exact ⟨Nat.ne_of_lt (Nat.lt_succ_self _), Nat.ne_of_gt ll⟩
        have up : ∀ b o, s.heap.get? b = some o → ((s.heap.push (newSet w)).push { cls := .type it, data := .fields #[.ref l, .int 0 0] }).get? b = some o := fun b o e => Heap.get?_push_of_some _ (Heap.get?_push_of_some _ e)
        refine fills_loop ((W _ nI).toS) off (free_above (Nat.le_refl _)) (fun b hb => free_above (by rw [List.mem_singleton.mp hb, Heap.size_push]; exact Nat.le_succ _)) (by simp) T (items.size - 0) 0 _ (by omega) (Nat.zero_le _)
          (St0 _ hol') up ((T (fun _ _ => False)).zero _ _ (Heap.get?_push_of_some _ atS) up) ?_
        intro s' m J' q'
        obtain ⟨h', g2, d', tk', os'⟩ := s'
        have eg : g2 = s.gens := m.gens
        have ed : d' = s.drawn := m.drawn
        have eo : os' = s.os := m.os
        subst eg; subst ed; subst eo
        show wpAny _ _ _ _ _ _
        refine wpAny_pure ?_; show wpAny _ _ (ret Value.none) _ _ _
        exact wpAny_pure ⟨rfl, h', tk', rfl, J', q'⟩
      · cases r₂ with
        | error e => exact hr₂
        | ok fl₂ =>
          cases fl₂ with
          | ret r =>
            obtain ⟨rfl, h', tk, rfl, J', q'⟩ := hr₂
            repeat (any_goals (first | assumption | wp_step))
            exact h _ _ J' q'
          | _ => exact hr₂.elim
    | _ => exact hr.elim
theorem set_of_list {l : Addr} {items : Array Value} {Q : Value → Shared → Prop} {J : Nat → Heap → Prop} (hh : A.handled = none) (hl : s.heap.IsList l items) (T : ∀ E, Fills P w (A.units + 3) E s.heap.objs.size items s.heap J)
    (h : ∀ (h' : Heap) (tk : Nat), J items.size h' → (∀ b o, s.heap.get? b = some o → h'.get? b = some o) → Q (.ref s.heap.objs.size) { s with heap := h', toks := tk }) :
    wpAny (model P w) A (call (.type "set") [.ref l]) Q E s := by
  obtain ⟨⟨oc, od, odata, os⟩, hol, hcl, nl, hdl⟩ := hl
  simp only at hcl hdl
  subst hcl; subst hdl
  exact set_of_seq hol PySem.F.sub_list_set PySem.F.sub_list_frozenset (by decide) (fun e q => wpAny_pyIter_list ⟨_, e, rfl, nl, rfl⟩ q) (fun I nI => Walks.list (by simp [hh]) I l nI items)
    (fun h e => ⟨⟨_, Heap.get?_push_size _ rfl, rfl, rfl⟩, ⟨_, Heap.get?_push_of_some _ e, rfl, nl, rfl⟩⟩) T h
theorem set_of_tuple {l : Addr} {items : Array Value} {Q : Value → Shared → Prop} {J : Nat → Heap → Prop} (hh : A.handled = none) (hl : s.heap.IsTuple l items) (T : ∀ E, Fills P w (A.units + 3) E s.heap.objs.size items s.heap J)
    (h : ∀ (h' : Heap) (tk : Nat), J items.size h' → (∀ b o, s.heap.get? b = some o → h'.get? b = some o) → Q (.ref s.heap.objs.size) { s with heap := h', toks := tk }) :
    wpAny (model P w) A (call (.type "set") [.ref l]) Q E s := by
  obtain ⟨⟨oc, od, odata, os⟩, hol, hcl, nl, hdl⟩ := hl
  simp only at hcl hdl
  subst hcl; subst hdl
  exact set_of_seq hol PySem.F.sub_tuple_set PySem.F.sub_tuple_frozenset (by decide) (fun e q => wpAny_pyIter_tuple ⟨_, e, rfl, nl, rfl⟩ q) (fun I nI => Walks.tuple (by simp [hh]) I l nI items)
    (fun h e => ⟨⟨_, Heap.get?_push_size _ rfl, rfl, rfl⟩, ⟨_, Heap.get?_push_of_some _ e, rfl, nl, rfl⟩⟩) T h
end
end CP
namespace CP
open PySem PySem.Spec PyProof.Rows L2
section
variable {P : Program} {w : World} {A : Around} {E : Value → Shared → Prop} {s : Shared}
/-- the tuple at b holds the texts k -/
abbrev TxtAt (P : Program) (w : World) (h : Heap) (k : List Str) (b : Addr) : Prop := IsTupleKey (strKind P w) h k b
theorem items_txt {k : List Str} {vs : List Value} (h : ItemsAre (strKind P w) k vs) : ∀ v ∈ vs, ∃ x u, v = Value.str x u := by
  induction h with
  | nil => intro v z; cases z
  | @cons k0 v0 ks vs h1 _ ih =>
    intro v z
    rcases List.mem_cons.mp z with rfl | z
    · obtain ⟨u, e⟩ := Value.isStrOf_shape h1
      exact ⟨k0, u, e⟩
    · exact ih v z
theorem cls_txt (n : Nat) (x : Str) (u : Tok) : ofAClassStatement n (.str x u) = pure false := by cases n <;> rfl
theorem hsh_txt (n : Nat) (x : Str) (u : Tok) : hashByValue n (.str x u) = pure false := by cases n <;> rfl
theorem cls_tup {k : List Str} {b : Addr} {Q : Bool → Shared → Prop} (hk : TxtAt P w s.heap k b) (h : Q false s) : wpAny (model P w) A (ofAClassStatement 8 (.ref b)) Q E s := by
  have ty := hk.typeIs
  obtain ⟨o, items, n, ho, _, hd, hi⟩ := hk
  unfold ofAClassStatement
  refine wpAny_bind (wpAny_typeOf ty ?_); dsimp only
  have e : (("tuple" : String) == "tuple") = true := by decide
  simp only [e, if_true, Bool.not_true, Bool.false_eq_true, if_false]
  try refine wpAny_bind (wpAny_pure ?_)
  try simp only [Bool.not_true, Bool.false_eq_true, if_false]
  show wpAny _ _ (seqItems? (.ref b) >>= _) _ _ s
  refine wpAny_bind (wpAny_seqItems ho hd ?_); dsimp only
  refine wpAny_bind ?_; show wpAny _ _ (forIn items _ _) _ _ s
  rw [← Array.forIn_toList]
  refine wpAny_forIn_list _ (fun rest r s' => r.1 = none ∧ s' = s ∧ ∀ v ∈ rest, ∃ x u, v = Value.str x u) _ ?_ ?_ _ _ ⟨rfl, rfl, items_txt hi⟩
  · rintro v rest r s' ⟨hr, rfl, each⟩
    obtain ⟨x, u, rfl⟩ := each v List.mem_cons_self
    rw [cls_txt]
    refine wpAny_bind (wpAny_pure ?_); simp only [Bool.false_eq_true, if_false]
    exact wpAny_pure ⟨rfl, rfl, fun y hy => each y (List.mem_cons_of_mem _ hy)⟩
  · rintro ⟨r1, r2⟩ s' ⟨hr, rfl, _⟩
    simp only at hr; subst hr
    exact wpAny_pure h
theorem hsh_tup {k : List Str} {b : Addr} {Q : Bool → Shared → Prop} (hk : TxtAt P w s.heap k b) (h : ∀ v, Q v s) : wpAny (model P w) A (hashByValue 8 (.ref b)) Q E s := by
  have ty := hk.typeIs
  obtain ⟨o, items, n, ho, _, hd, hi⟩ := hk
  unfold hashByValue
  refine wpAny_bind (wpAny_specialOf ty PySem.F.slot_tuple_hash.lookup ?_)
  show wpAny _ _ (seqItems? (.ref b) >>= _) _ _ s
  refine wpAny_bind (wpAny_seqItems ho hd (wpAny_bind ?_)); show wpAny _ _ (forIn items _ _) _ _ s
  rw [← Array.forIn_toList]
  refine wpAny_forIn_list _ (fun rest r s' => (r.1 = none ∨ r.1 = some false) ∧ s' = s ∧ ∀ v ∈ rest, ∃ x u, v = Value.str x u) _ ?_ ?_ _ _ ⟨.inl rfl, rfl, items_txt hi⟩
  · rintro v rest r s' ⟨hr, rfl, each⟩
    obtain ⟨x, u, rfl⟩ := each v List.mem_cons_self
    rw [hsh_txt]
    refine wpAny_bind (wpAny_pure ?_); simp only [Bool.not_false, if_true]
    exact wpAny_pure (wpAny_pure (h _))
  · rintro ⟨r1, r2⟩ s' ⟨hr, rfl, _⟩
    simp only at hr
    rcases hr with rfl | rfl
    · exact wpAny_pure (h _)
    · exact wpAny_pure (h _)
theorem seen_tup2 {k : List Str} {b : Addr} {Q : Bool → Shared → Prop} {ys : List Value} (hk : TxtAt P w s.heap k b) (hy : ∀ y ∈ ys, ∃ z c, y = Value.ref c ∧ TxtAt P w s.heap z c) (h : Q false s) : wpAny (model P w) A (searchCouldBeSeen (.ref b) ys) Q E s := by
  unfold searchCouldBeSeen
  refine wpAny_bind ?_
  refine wpAny_forIn_list _ (fun rest r s' => r.1 = none ∧ s' = s ∧ ∀ y ∈ rest, ∃ z c, y = Value.ref c ∧ TxtAt P w s.heap z c) _ ?_ ?_ _ _ ⟨rfl, rfl, hy⟩
  · rintro v rest r s' ⟨hr, rfl, each⟩
    obtain ⟨z, c, rfl, hc⟩ := each v List.mem_cons_self
    have each' : ∀ y ∈ rest, ∃ z c, y = Value.ref c ∧ TxtAt P w s'.heap z c := fun y z => each y (List.mem_cons_of_mem _ z)
    dsimp only
    by_cases hv : (b == c || (carriedByValue (.ref b) && carriedByValue (.ref c))) = true
    · exact wp_if_pos hv (wpAny_pure ⟨rfl, rfl, each'⟩)
    · refine wp_if_neg hv (wpAny_bind (wpAny_eqIsQuiet_tuple hk ?_)); simp only [Bool.not_true, Bool.false_eq_true, if_false]
      refine wpAny_bind (wpAny_eqIsQuiet_tuple hc ?_); simp only [Bool.not_true, Bool.false_eq_true, if_false]
      refine wpAny_bind (cls_tup hk ?_); simp only [Bool.false_eq_true, if_false]
      refine wpAny_bind (cls_tup hc ?_); simp only [Bool.false_eq_true, if_false]
      exact wpAny_pure ⟨rfl, rfl, each'⟩
  · rintro ⟨r1, r2⟩ s' ⟨hr, rfl, _⟩
    simp only at hr; subst hr
    exact wpAny_pure h
end
/-- tuples of texts as keys -/
def txtK (P : Program) (w : World) : KF P w (List Str) where
  At := fun h k b => TxtAt P w h k b
  hs := tupleKeyHash (strKind P w)
  eqb := fun hu hx hy h => wpAny_eqBool_tuple (by omega) hx hy h
  seen := fun hx hy h => seen_tup2 hx hy h
  hby := fun hx h => hsh_tup hx h
  pyh := fun hu hx h => wpAny_pyHash_tuple (by omega) hx (h _)
  other := fun hb ho hd hs => by
    obtain ⟨o2, items, n, ho2, hc, hd2, hi⟩ := hb
    refine ⟨o2, items, n, (hs.2 _ fun z => ?_).trans ho2, hc, hd2, hi⟩
    rw [z, ho] at ho2; cases ho2; rw [hd] at hd2; cases hd2
  kept := fun hb hk => by
    obtain ⟨o2, items, n, ho2, r⟩ := hb
    exact ⟨o2, items, n, hk _ _ ho2, r⟩

section
variable {P : Program} {w : World} {κ : Type} [DecidableEq κ] (F : KF P w κ)
/-- a set filled with the objects ks, item by item -/
theorem fills_keys {S : Addr} {items : Array Value} {h0 : Heap} {ks : List (Addr × κ)} {u : Nat} {E : Value → Shared → Prop} (hu : u + 8 < cLine) (hit : items.toList = ks.map fun p => Value.ref p.1) (few : ks.length < 250) (hk : ∀ p ∈ ks, F.At h0 p.2 p.1) :
    Fills P w u E S items h0 (fun i h => (∃ L es ep t, SK F h S L es ep t ∧ Has ks i L)) := by
  have sub : ∀ {i : Nat} {L : List (Addr × κ)} {p : Addr × κ}, Has ks i L → p ∈ L → p ∈ ks := fun g hp => List.mem_of_mem_take (g.sub _ hp)
  refine ⟨fun h b e _ => ⟨[], #[], 0, _, SK.new e, Has.none ks⟩, fun i h h' ⟨L, es, ep, t, R, g⟩ q1 q2 => ⟨L, es, ep, t, R.kept q1 fun p hp => F.kept (hk p (sub g hp)) q2, g⟩, ?_⟩
  intro A' i v s' hA hv ⟨L, es, ep, t, R, g⟩ q2 Q hQ
  obtain ⟨p, hp, rfl⟩ : ∃ p, ks[i]? = some p ∧ v = .ref p.1 := by
    have e : items.toList[i]? = some v := by rw [Array.getElem?_toList]; exact hv
    rw [hit, List.getElem?_map] at e
    cases hq : ks[i]? with
    | none => rw [hq] at e; cases e
    | some p => rw [hq] at e; exact ⟨p, rfl, (Option.some.inj e).symm⟩
  have hx : F.At s'.heap p.2 p.1 := F.kept (hk p (List.mem_of_getElem? hp)) q2
  unfold setAdd
  refine wpAny_holding (wpAny_bind (F.pyh (by omega) hx fun tn => ?_))
  have li : i < ks.length := (List.getElem?_eq_some_iff.mp hp).1
  refine put_in (s := { s' with toks := s'.toks + tn }) R hx (by omega) (by have := g.len; omega) fun b h' L' es' ep' t' sb R' c1 c2 => ?_
  exact hQ b h' tn sb ⟨L', es', ep', t', R', g.next hp c1 c2⟩
end
section
variable {P : Program} {w : World}
theorem txts_get {us : List Value} {xs : List Str} (r : Vals (xs.map V.str) us) (i : Nat) (v : Value) (e : us[i]? = some v) : ∃ x u, xs[i]? = some x ∧ v = .str x u := by
  have li : i < xs.length := by have := (List.getElem?_eq_some_iff.mp e).1; rw [← r.length, List.length_map] at this; exact this
  have hx : xs[i]? = some xs[i] := List.getElem?_eq_getElem li
  obtain ⟨u, e2, rv⟩ := r.get (i := i) (x := V.str xs[i]) (by rw [List.getElem?_map, hx]; rfl)
  rw [e] at e2; cases e2
  obtain ⟨t, rfl⟩ := rv
  exact ⟨_, t, hx, rfl⟩
/-- a set filled with texts -/
theorem fills_txts {S : Addr} {items : Array Value} {h0 : Heap} {xs : List Str} {u : Nat} {E : Value → Shared → Prop} (hi : Vals (xs.map V.str) items.toList) (few : xs.length + 1 < scanBound) :
    Fills P w u E S items h0 (fun i h => ∃ n, h.SetOf (strKind P w) S (fun k => decide (k ∈ xs.take i)) n ∧ n ≤ i ∧ (xs.Nodup → n = i) ∧ (n = i → (xs.take i).Nodup)) := by
  refine ⟨fun h b e _ => ⟨0, ?_, Nat.le_refl _, fun _ => rfl, fun _ => List.nodup_nil⟩, fun i h h' ⟨n, R, c⟩ q1 _ => ⟨n, ?_, c⟩, ?_⟩
  · exact SetOf_congr ((setObjOf_fresh (knd := strKind P w) b).setOf e (by unfold scanBound; omega)) (fun k => by simp) rfl
  · obtain ⟨o, es, ep, tb, ho, rest⟩ := R
    exact ⟨o, es, ep, tb, q1 o ho, rest⟩
  · intro A' i v s' _ hv ⟨n, R, c1, c2, c3⟩ _ Q hQ
    obtain ⟨x, u, hx, rfl⟩ := txts_get hi i v (by rw [Array.getElem?_toList]; exact hv)
    have li : i < xs.length := (List.getElem?_eq_some_iff.mp hx).1
    unfold setAdd
    refine wpAny_holding (wpAny_bind ((strKind P w).pyHash (k := x) (strKind_is _ _ _ _) ?_))
    refine wpAny_setAddHashed_of (knd := strKind P w) (s := { s' with toks := s'.toks + 1 }) (strKind_is _ _ _ _) rfl R (by omega) fun h' sb R' => ?_
    refine hQ _ h' 1 sb ⟨_, SetOf_congr R' (fun k => ?_) rfl, ?_, fun nd => ?_, fun z => ?_⟩
    · rw [take_one hx]; simp [Bool.decide_or]
    · split <;> omega
    · have : x ∉ xs.take i := fun z => by
        obtain ⟨j, hj⟩ := List.getElem?_of_mem z
        have hji : j < i := Nat.lt_of_lt_of_le (List.getElem?_eq_some_iff.mp hj).1 (List.length_take_le _ _)
        rw [List.getElem?_take_of_lt hji] at hj
        obtain ⟨b1, e1⟩ := List.getElem?_eq_some_iff.mp hj
        obtain ⟨b2, e2⟩ := List.getElem?_eq_some_iff.mp hx
        exact (List.pairwise_iff_getElem.mp nd) j i b1 b2 hji (e1.trans e2.symm)
      rw [decide_eq_false this]; simp [c2 nd]
    · by_cases c : x ∈ xs.take i
      · rw [decide_eq_true c, if_pos rfl] at z; omega
      · rw [decide_eq_false c, if_neg (by decide)] at z
        rw [take_one hx]
        refine List.nodup_append.mpr ⟨c3 (by omega), by simp, fun y hy y' hy' e => c ?_⟩
        simp at hy'
        rw [← hy', ← e]; exact hy
end
/-! ### len(set(xs)) -/
section
variable {X : Cx} {e : Expr} {te : TE} {p p2 q pos : Pos}
/-- xs a row of texts -/
def tLenSetX (K : PySem.W.Frag) (te : TE) : TE := fun σ H Q => te σ H fun x H1 => ∃ (l : Addr) (xs : List Str), x = V.ref l ∧ (SqL K H1 l (xs.map V.str) ∨ SqT K H1 l (xs.map V.str)) ∧ xs.length < 1000 ∧
  ∀ n : Nat, n ≤ xs.length → (n = xs.length ↔ xs.Nodup) → Q (.int (n : Int)) H1
theorem pe_lenSetX (hc : X.calm = true) (hg : Gl X "len") (hm : X.mg "len" = none) (hg2 : Gl X "set") (hm2 : X.mg "set" = none) (he : PE X e te)
    (na : starEach [e] X.env = (false, eval e X.env) :: starEach [] X.env := by rfl) : PE X (.Call (.Name "len" p) [.Call (.Name "set" p2) [e] [] q] [] pos) (tLenSetX X.K te) := by
  refine ⟨fun pins s σ H Q I h => Call_ (ld_blt I hg hm PySem.boot_len ?_)⟩
  refine PyProof.Rows.callWith_builtin1 (PyProof.Rows.args_cons ?_ rfl) rfl rfl
  refine Call_ (ld_blt I hg2 hm2 PyProof.Rows.boot_set ?_)
  refine PyProof.Rows.callWith_type1 (PyProof.Rows.args_cons (thn (he.run pins s σ H _ I h) fun v s1 ⟨x, H1, I1, r1, l, xs, ex, hq, few, k⟩ => PyProof.Rows.args_nil ?_) na) na rfl
  subst ex; cases r1
  rcases hq with hq | hq
  · obtain ⟨its, r, pl, _⟩ := I1.list hq
    refine set_of_list (I1.ok.hd hc) pl.isList (fun E => fills_txts (xs := xs) (by simpa using r) (by unfold scanBound; omega)) fun h' tk ⟨n, ⟨o, es, ep, t, ho, hex, hd, _, _, _, hf, hn⟩, c1, c2, c3⟩ keep => ?_
    have sz : its.toArray.size = xs.length := by rw [List.size_toArray, ← r.length, List.length_map]
    rw [sz] at c1 c2 c3; rw [List.take_length] at c3
    exact PyProof.Rows.args_nil (call_len_set ho hex hd hf (by rw [hn]; omega) ⟨.int n, H1, (I1.kept (t' := tk) keep).tok _, ⟨_, by rw [hn]⟩, k n c1 ⟨c3, c2⟩⟩)
  · obtain ⟨its, r, pl, _⟩ := I1.tuple hq
    refine set_of_tuple (I1.ok.hd hc) pl (fun E => fills_txts (xs := xs) (by simpa using r) (by unfold scanBound; omega)) fun h' tk ⟨n, ⟨o, es, ep, t, ho, hex, hd, _, _, _, hf, hn⟩, c1, c2, c3⟩ keep => ?_
    have sz : its.toArray.size = xs.length := by rw [List.size_toArray, ← r.length, List.length_map]
    rw [sz] at c1 c2 c3; rw [List.take_length] at c3
    exact PyProof.Rows.args_nil (call_len_set ho hex hd hf (by rw [hn]; omega) ⟨.int n, H1, (I1.kept (t' := tk) keep).tok _, ⟨_, by rw [hn]⟩, k n c1 ⟨c3, c2⟩⟩)
/-- xs a row of tuples of texts -/
def tLenSetP (K : PySem.W.Frag) (te : TE) : TE := fun σ H Q => te σ H fun x H1 => ∃ (l : Addr) (ks : List (Addr × List Str)), x = V.ref l ∧ (SqL K H1 l (ks.map fun p => V.ref p.1) ∨ SqT K H1 l (ks.map fun p => V.ref p.1)) ∧ (∀ p ∈ ks, SqT K H1 p.1 (p.2.map V.str)) ∧ ks.length < 250 ∧
  ∀ n : Nat, n ≤ ks.length → (n = ks.length ↔ (ks.map (·.2)).Nodup) → Q (.int (n : Int)) H1
theorem txt_items {P : Program} {w : World} : ∀ {k : List Str} {us : List Value}, Vals (k.map V.str) us → ItemsAre (strKind P w) k us
  | [], us, r => by cases r; exact .nil
  | x :: k, us, r => by
    cases r with
    | @cons _ u _ us h1 h2 =>
      obtain ⟨t, rfl⟩ := h1
      exact .cons (strKind_is _ _ _ _) (txt_items h2)
theorem txt_at {pins : List (Addr × Obj)} {σ : L2.St} {H : Hp} {s : Shared} {b : Addr} {k : List Str} (I : L2.Inv X pins σ H s) (h : SqT X.K H b (k.map V.str)) : TxtAt X.prog X.w s.heap k b := by
  obtain ⟨its, r, ⟨o, ho, hc, n, hd⟩, _⟩ := I.tuple h
  exact ⟨o, its.toArray, n, ho, hc, hd, by simpa using txt_items r⟩
theorem refs_only : ∀ {κ : Type} {ks : List (Addr × κ)} {us : List Value}, Vals (ks.map fun p => V.ref p.1) us → us = ks.map fun p => Value.ref p.1
  | _, [], us, r => by cases r; rfl
  | _, p :: ks, us, r => by
    cases r with
    | @cons _ u _ us h1 h2 =>
      obtain rfl : u = Value.ref p.1 := h1
      rw [refs_only h2]; rfl
theorem pe_lenSetP (hc : X.calm = true) (hg : Gl X "len") (hm : X.mg "len" = none) (hg2 : Gl X "set") (hm2 : X.mg "set" = none) (hu : X.A.units + 64 < cLine) (he : PE X e te)
    (na : starEach [e] X.env = (false, eval e X.env) :: starEach [] X.env := by rfl) : PE X (.Call (.Name "len" p) [.Call (.Name "set" p2) [e] [] q] [] pos) (tLenSetP X.K te) := by
  refine ⟨fun pins s σ H Q I h => Call_ (ld_blt I hg hm PySem.boot_len ?_)⟩
  refine PyProof.Rows.callWith_builtin1 (PyProof.Rows.args_cons ?_ rfl) rfl rfl
  refine Call_ (ld_blt I hg2 hm2 PyProof.Rows.boot_set ?_)
  refine PyProof.Rows.callWith_type1 (PyProof.Rows.args_cons (thn (he.run pins s σ H _ I h) fun v s1 ⟨x, H1, I1, r1, l, ks, ex, hq, hks, few, k⟩ => PyProof.Rows.args_nil ?_) na) na rfl
  subst ex; cases r1
  have ats : ∀ p ∈ ks, (txtK X.prog X.w).At s1.heap p.2 p.1 := fun p hp => txt_at I1 (hks p hp)
  rcases hq with hq | hq
  · obtain ⟨its, r, pl, _⟩ := I1.list hq
    have sz : its.toArray.size = ks.length := by rw [List.size_toArray, ← r.length, List.length_map]
    refine set_of_list (I1.ok.hd hc) pl.isList (fun E => fills_keys (txtK X.prog X.w) (ks := ks) (by omega) (by simpa using refs_only r) few ats) fun h' tk ⟨L, es, ep, t, R, g⟩ keep => ?_
    rw [sz] at g
    obtain ⟨o, ho, hex, hd⟩ := R.obj
    have cz := size_of_rows R.row
    have c3 := g.once; rw [List.take_length] at c3
    exact PyProof.Rows.args_nil (call_len_set ho hex hd (R.fit (s := { s1 with heap := h' })) (by have := R.few; omega) ⟨.int L.length, H1, (I1.kept (t' := tk) keep).tok _, ⟨_, by rw [cz]⟩, k L.length g.len ⟨c3, g.full⟩⟩)
  · obtain ⟨its, r, pl, _⟩ := I1.tuple hq
    have sz : its.toArray.size = ks.length := by rw [List.size_toArray, ← r.length, List.length_map]
    refine set_of_tuple (I1.ok.hd hc) pl (fun E => fills_keys (txtK X.prog X.w) (ks := ks) (by omega) (by simpa using refs_only r) few ats) fun h' tk ⟨L, es, ep, t, R, g⟩ keep => ?_
    rw [sz] at g
    obtain ⟨o, ho, hex, hd⟩ := R.obj
    have cz := size_of_rows R.row
    have c3 := g.once; rw [List.take_length] at c3
    exact PyProof.Rows.args_nil (call_len_set ho hex hd (R.fit (s := { s1 with heap := h' })) (by have := R.few; omega) ⟨.int L.length, H1, (I1.kept (t' := tk) keep).tok _, ⟨_, by rw [cz]⟩, k L.length g.len ⟨c3, g.full⟩⟩)
end
end CP
namespace CP
open PySem L2
def top (i : Nat) : Stmt := PySem.Challenge.pw_crossparity_k49_pairs_flipped_by_a_carry.main.body.getD i (.Pass ⟨0, 0, 0, 0⟩)
abbrev sSource : Stmt := top 26
abbrev sNext : Stmt := top 27
abbrev sOne : Stmt := top 28
abbrev sMixed : Stmt := top 29
abbrev sGraph : Stmt := top 30
/-- three ints at a: a source of choices -/
def Src (H : Hp) (a : Addr) : Prop := ∃ x y z : Int, H a = some (.lst [.int x, .int y, .int z])
/-- all that stood stands, but what is at a -/
def But (a : Addr) (H H' : Hp) : Prop := ∀ b o, b ≠ a → H b = some o → H' b = some o
theorem But.refl {a : Addr} {H : Hp} : But a H H := fun _ _ _ e => e
theorem But.trans {a : Addr} {H H1 H2 : Hp} (x : But a H H1) (y : But a H1 H2) : But a H H2 := fun b o n e => y b o n (x b o n e)
theorem But.upd {a : Addr} {H : Hp} {o : HO} : But a H (L2.upd H a o) := fun b u n e => by rw [upd_ne n]; exact e
theorem But.new {a p : Addr} {H : Hp} {o : HO} (h : H p = none) : But a H (L2.upd H p o) := fun b u _ e => by rw [upd_ne (ne_of_none e h)]; exact e
theorem But.of_same {a : Addr} {H H' : Hp} (h : Same H H') : But a H H' := fun b o _ e => h b o e

def spSource : Sp := fun vs H Q _ => ∃ c : Int, vs = [.int c] ∧ ∀ p H', H p = none → Src H' p → Same H H' → Q (.ref p) H'
def spNext : Sp := fun vs H Q _ => ∃ (a : Addr) (m : Int), vs = [.ref a, .int m] ∧ Src H a ∧ 0 < m ∧ m < 1000000 ∧ ∀ (r : Int) H', 0 ≤ r → r < m → Src H' a → But a H H' → Q (.int r) H'
section
variable {P : Program} {w : World} {K : PySem.W.Frag} {mg : Str → Option Value} {base : Heap}
theorem scSource : FnScope ["_law_cell"] ["_law_cell"] (defScope sSource) := ⟨rfl, rfl, rfl, by decide +kernel, rfl, by decide +kernel, by decide +kernel⟩
theorem ok_source {f : Addr} {fd : FuncData} (F : Fun K "_law_source_of" "_law_source_of" sSource f fd) (mint : mg "int" = none) : FnOk P w K mg base CX0 1 f fd ["_law_cell"] spSource := by
  refine F.ok scSource (fun vs H Q E h => ?_) (fun cdv A outer s H vs Q E hr h => ?_)
  · obtain ⟨c, rfl, _⟩ := h; rfl
  · obtain ⟨c, rfl, k⟩ := h
    refine ⟨_, pss_cons (ps_set (i := 0) scSource.nd rfl (Or.inl rfl) (pe_ifExp (pt_cmpR op_ge (pv 0) pe_int (nomark _)) (pv 0) (pe_op op_sub (pe_op op_sub pe_int (pe_op op_mul pe_int (pv 0))) pe_int)))
      (pss_one (ps_ret (pe_lst (pa_cons (pe_op op_mul (pv 0) (pe_callTy call_int1 (by rfl) mint (by decide +kernel) (pa_cons (pe_cmpR op_ge (pv 0) (pe_op op_pow pe_int pe_int) (nomark _)) pa_nil)))
        (pa_cons (pe_op op_mod (pv 0) pe_int) (pa_cons pe_int pa_nil)))))), ?_⟩
    refine ⟨_, rfl, _, _, rfl, rfl, _, rfl, ite2 (fun _ => ⟨_, rfl, ?_⟩) (fun _ => ⟨_, rfl, _, _, rfl, rfl, .inl ⟨by decide, by decide⟩, _, _, rfl, rfl, _, _, rfl, rfl, ?_⟩)⟩
    all_goals
      refine ⟨_, rfl, _, rfl, _, _, rfl, rfl, ⟨by decide, by decide, by decide⟩, _, _, rfl, rfl, .inr ⟨_, rfl, _, _, rfl, rfl, .inr ?_, _, rfl, _, _, rfl, rfl, (show (0 : Int) < 2147483647 by decide), by show 3 ≤ sizeLine; decide, fun p hp => ?_⟩⟩
      · split <;> decide
      · exact k p _ hp ⟨_, _, _, upd_same⟩ fun b o e => by rw [upd_ne (ne_of_none e hp)]; exact e
theorem scNext : FnScope ["_law_source", "_law_many", "_law_found", "_law_prime", "_law_number"] ["_law_source", "_law_many"] (defScope sNext) := ⟨rfl, rfl, rfl, by decide +kernel, rfl, by decide +kernel, by decide +kernel⟩
theorem small_mod (n m : Int) (h : 0 < m) (h2 : m ≤ 2147483647) : -(2 ^ 64) < n % m ∧ n % m < 2 ^ 64 := by
  have a := Int.emod_nonneg n (Int.ne_of_gt h)
  have b := Int.emod_lt_of_pos n h
  omega
theorem ok_next {f : Addr} {fd : FuncData} (F : Fun K "_law_next" "_law_next" sNext f fd) : FnOk P w K mg base CX0 1 f fd ["_law_source", "_law_many"] spNext := by
  refine F.ok scNext (fun vs H Q E h => ?_) (fun cdv A outer s H vs Q E hr h => ?_)
  · obtain ⟨a, m, rfl, _⟩ := h; rfl
  · obtain ⟨a, m, rfl, ⟨x, y, z, hS⟩, h0, h1, k⟩ := h
    refine ⟨_, pss_cons (ps_if (pt_cmpR op_gt (pe_ix ix_list (pv 0) pe_int (fun _ _ => rfl)) pe_int (nomark _))
        (pss_cons (ps_set (i := 2) scNext.nd rfl (Or.inl rfl) (pe_op op_mod (pe_ix ix_list (pv 0) pe_int (fun _ _ => rfl)) (pv 1)))
        (pss_cons (ps_asg (pe_op op_fdiv (pe_ix ix_list (pv 0) pe_int (fun _ _ => rfl)) (pv 1)) (pg_sub (pv 0) pe_int set_list))
        (pss_one (ps_ret (pv 2))))) pss_nil)
      (pss_cons (ps_asg (pe_op op_add (pe_ix ix_list (pv 0) pe_int (fun _ _ => rfl)) pe_int) (pg_sub (pv 0) pe_int set_list))
      (pss_cons (ps_set (i := 3) scNext.nd rfl (Or.inl rfl) pe_int)
      (pss_cons (ps_set (i := 4) scNext.nd rfl (Or.inl rfl) (pe_op op_mod (pe_op op_add (pe_op op_add (pe_ix ix_list (pv 0) pe_int (fun _ _ => rfl)) (pe_op op_mul pe_int (pe_ix ix_list (pv 0) pe_int (fun _ _ => rfl)))) pe_int) (pv 3)))
      (pss_cons (ps_set (i := 4) scNext.nd rfl (Or.inl rfl) (pe_op op_mod (pe_op op_mul (pv 4) pe_int) (pv 3)))
      (pss_cons (ps_set (i := 4) scNext.nd rfl (Or.inl rfl) (pe_op op_mod (pe_op op_mul (pv 4) (pe_op op_add (pe_op op_fdiv (pv 4) pe_int) pe_int)) (pv 3)))
      (pss_cons (ps_set (i := 4) scNext.nd rfl (Or.inl rfl) (pe_op op_mod (pe_op op_mul (pv 4) (pe_op op_add (pe_op op_fdiv (pv 4) pe_int) pe_int)) pe_int))
      (pss_one (ps_ret (pe_op op_mod (pe_op op_fdiv (pv 4) pe_int) (pv 1)))))))))), ?_⟩
    have i0 : ∀ {x y z : Int}, atI [V.int x, V.int y, V.int z] 0 = some (.int x) := rfl
    have i1 : ∀ {x y z : Int}, atI [V.int x, V.int y, V.int z] 1 = some (.int y) := rfl
    have i2 : ∀ {x y z : Int}, atI [V.int x, V.int y, V.int z] 2 = some (.int z) := rfl
    refine ⟨_, rfl, a, _, _, _, rfl, rfl, SqL.of hS, i0, _, _, rfl, rfl, _, rfl, ite2 (fun _ => ?_) (fun _ => ?_)⟩
    · refine ⟨_, rfl, a, _, _, _, rfl, rfl, SqL.of hS, i0, _, rfl, _, _, rfl, rfl, h0, ?_⟩
      refine ⟨_, rfl, a, _, _, _, rfl, rfl, SqL.of hS, i0, _, rfl, _, _, rfl, rfl, ⟨h0, by omega⟩, _, rfl, a, _, _, 0, rfl, rfl, hS, rfl, _, rfl, ?_⟩
      exact k _ _ (Int.emod_nonneg _ (by omega)) (Int.emod_lt_of_pos _ h0) ⟨_, _, _, upd_same⟩ But.upd
    · refine ⟨_, rfl, a, _, _, _, rfl, rfl, SqL.of hS, i2, _, _, rfl, rfl, _, rfl, a, _, _, 2, rfl, rfl, hS, rfl, ?_⟩
      refine ⟨_, rfl, a, _, _, _, rfl, rfl, SqL.of upd_same, i1, _, rfl, a, _, _, _, rfl, rfl, SqL.of upd_same, i2, _, _, rfl, rfl, .inl ⟨by decide, by decide⟩, _, _, rfl, rfl, _, _, rfl, rfl, _, rfl, _, _, rfl, rfl, (show (0 : Int) < 2147483647 by decide), ?_⟩
      refine ⟨_, rfl, _, _, rfl, rfl, .inr ⟨by decide, by decide⟩, _, rfl, _, _, rfl, rfl, (show (0 : Int) < 2147483647 by decide), ?_⟩
      refine ⟨_, rfl, _, rfl, _, _, rfl, rfl, ⟨by decide, by decide⟩, _, _, rfl, rfl, _, _, rfl, rfl, .inl (small_mod _ _ (by decide) (by decide)), _, rfl, _, _, rfl, rfl, (show (0 : Int) < 2147483647 by decide), ?_⟩
      refine ⟨_, rfl, _, rfl, _, _, rfl, rfl, ⟨by decide, by decide⟩, _, _, rfl, rfl, _, _, rfl, rfl, .inl (small_mod _ _ (by decide) (by decide)), _, _, rfl, rfl, (show (0 : Int) < 2147483399 by decide), ?_⟩
      refine ⟨_, rfl, _, _, rfl, rfl, ⟨by decide, by decide⟩, _, rfl, _, _, rfl, rfl, h0, ?_⟩
      exact k _ _ (Int.emod_nonneg _ (by omega)) (Int.emod_lt_of_pos _ h0) ⟨_, _, _, upd_same⟩ But.upd
end
end CP
namespace CP
open PySem L2
def spOne (K : PySem.W.Frag) : Sp := fun vs H Q _ => ∃ (a b : Addr) (xs : List V), vs = [.ref a, .ref b] ∧ Src H a ∧ a ≠ b ∧ SqL K H b xs ∧ H b = some (.lst xs) ∧ 0 < xs.length ∧ xs.length < 100000 ∧
  ∀ x H', x ∈ xs → Src H' a → But a H H' → Q x H'
/-- a text, or a tracked tuple of two texts -/
def Item (H : Hp) (x : V) : Prop := (∃ z, x = .str z ∧ PyData.strOk z = true) ∨ ∃ p u v, x = .ref p ∧ H p = some (.tup [.str u, .str v]) ∧ PyData.strOk u = true ∧ PyData.strOk v = true
def spMixed (K : PySem.W.Frag) : Sp := fun vs H Q _ => ∃ (a b : Addr) (xs : List V), vs = [.ref a, .ref b] ∧ Src H a ∧ a ≠ b ∧ H b = some (.lst xs) ∧ (∀ x ∈ xs, Item H x) ∧ xs.length < 100000 ∧
  ∀ p ys H', ys.Perm xs → H p = none → H' p = some (.lst ys) → Src H' a → But a H H' → Q (.ref p) H'
section
variable {P : Program} {w : World} {K : PySem.W.Frag} {mg : Str → Option Value} {base : Heap}
theorem scOne : FnScope ["_law_source", "_law_some"] ["_law_source", "_law_some"] (defScope sOne) := ⟨rfl, rfl, rfl, by decide +kernel, rfl, by decide +kernel, by decide +kernel⟩
theorem ok_one {f fN : Addr} {fd fdN : FuncData} (F : Fun K "_law_one" "_law_one" sOne f fd) (mlen : mg "len" = none) (mN : mg "_law_next" = some (.ref fN)) (FN : Fun K "_law_next" "_law_next" sNext fN fdN) (bN : Binds K fdN ["_law_source", "_law_many"] []) :
    FnOk P w K mg base CX0 2 f fd ["_law_source", "_law_some"] (spOne K) := by
  have GN : FnOk P w K mg base CX0 1 fN fdN ["_law_source", "_law_many"] spNext := ok_next FN
  refine F.ok scOne (fun vs H Q E h => ?_) (fun cdv A outer s H vs Q E hr h => ?_)
  · obtain ⟨a, b, xs, rfl, _⟩ := h; rfl
  · obtain ⟨a, b, xs, rfl, hS, ab, hB, hB2, h0, h1, k⟩ := h
    refine ⟨_, pss_one (ps_ret (pe_ix ix_list (pv 1) (pe_call GN hr rfl mN FN.kp bN .nil pass0 (pa_cons (pv 0) (pa_cons (pe_callB call_len_seq (by rfl) mlen PySem.boot_len (pa_cons (pv 1) pa_nil)) pa_nil))) (fun _ _ => rfl))), ?_⟩
    refine ⟨_, rfl, _, rfl, _, rfl, b, _, rfl, .inl hB, a, _, rfl, hS, by omega, by omega, fun r H' r0 r1 S' B' => ?_⟩
    obtain ⟨j, rfl⟩ : ∃ j : Nat, r = j := ⟨r.toNat, by omega⟩
    have hj : j < xs.length := by omega
    exact ⟨b, xs, _, _, rfl, rfl, SqL.of (B' b _ ab.symm hB2), atI_nat (List.getElem?_eq_getElem hj), k _ _ (List.getElem_mem hj) S' B'⟩
theorem scMixed : FnScope ["_law_source", "_law_some", "_law_left", "_law_found"] ["_law_source", "_law_some"] (defScope sMixed) := ⟨rfl, rfl, rfl, by decide +kernel, rfl, by decide +kernel, by decide +kernel⟩
theorem erase_perm {α : Type} : ∀ {l : List α} {k : Nat} {y : α}, l[k]? = some y → (y :: l.eraseIdx k).Perm l
  | [], _, _, h => by simp at h
  | a :: l, 0, y, h => by
    obtain rfl : a = y := Option.some.inj h
    exact List.Perm.refl _
  | a :: l, k + 1, y, h => by
    have ih := erase_perm (l := l) (k := k) (y := y) h
    show (y :: a :: l.eraseIdx k).Perm (a :: l)
    exact (List.Perm.swap a y _).trans (ih.cons a)
theorem Item.but {H H' : Hp} {a : Addr} {x : V} (S : Src H a) (B : But a H H') (h : Item H x) : Item H' x := by
  rcases h with h | ⟨p, u, v, e, h, o⟩
  · exact .inl h
  · obtain ⟨x1, y1, z1, S⟩ := S
    exact .inr ⟨p, u, v, e, B p _ (ne_of h S (fun z => by cases z)) h, o⟩
theorem Item.dp {H : Hp} {x : V} (h : Item H x) : ∃ d, Dp K H x d ∧ d.canLay0 = true ∧ d.depth ≤ 1 := by
  rcases h with ⟨z, rfl, o⟩ | ⟨p, u, v, rfl, h, o⟩
  · exact ⟨_, .str z, by simp [PyData.canLay0, o], by simp [PyData.depth]⟩
  · exact ⟨_, .tup (SqT.of h) (.cons (.str u) (.cons (.str v) .nil)), by simp [PyData.canLay0, PyData.canLayAll0, o], by simp [PyData.depth, PyData.depthAll]⟩
theorem items_dp {H : Hp} : ∀ {xs : List V}, (∀ x ∈ xs, Item H x) → ∃ ds, DpAll K H xs ds ∧ ds.length = xs.length ∧ PyData.canLayAll0 ds = true ∧ PyData.depthAll ds ≤ 1
  | [], _ => ⟨[], .nil, rfl, by simp [PyData.canLayAll0], by simp [PyData.depthAll]⟩
  | x :: xs, h => by
    obtain ⟨d, d1, d2, d3⟩ := (h x List.mem_cons_self).dp (K := K)
    obtain ⟨ds, e1, e2, e3, e4⟩ := items_dp (xs := xs) fun y hy => h y (List.mem_cons_of_mem _ hy)
    refine ⟨d :: ds, .cons d1 e1, by simp [e2], by simp [PyData.canLayAll0, d2, e3], ?_⟩
    simp only [PyData.depthAll]; omega
theorem eqv_nil {ds : List PyData} : PyData.eqv (.list ds) (.list []) = decide (ds = []) := by
  cases ds <;> simp [PyData.eqv, PyData.eqvAll]
theorem ok_mixed {f fN : Addr} {fd fdN : FuncData} (F : Fun K "_law_mixed" "_law_mixed" sMixed f fd) (mlen : mg "len" = none) (mlist : mg "list" = none) (mN : mg "_law_next" = some (.ref fN)) (FN : Fun K "_law_next" "_law_next" sNext fN fdN) (bN : Binds K fdN ["_law_source", "_law_many"] []) :
    FnOk P w K mg base CX0 2 f fd ["_law_source", "_law_some"] (spMixed K) := by
  have GN : FnOk P w K mg base CX0 1 fN fdN ["_law_source", "_law_many"] spNext := ok_next FN
  refine F.ok scMixed (fun vs H Q E h => ?_) (fun cdv A outer s H vs Q E hr h => ?_)
  · obtain ⟨a, b, xs, rfl, _⟩ := h; rfl
  · obtain ⟨a, b, xs, rfl, hS, ab, hB, hI, h1, k⟩ := h
    have hu := hu_of hr
    refine ⟨_, pss_cons (ps_set (i := 2) scMixed.nd rfl (Or.inl rfl) (pe_callTy call_list_of (by rfl) mlist (by decide +kernel) (pa_cons (pv 1) pa_nil)))
      (pss_cons (ps_set (i := 3) scMixed.nd rfl (Or.inl rfl) (pe_lst pa_nil))
      (pss_cons (ps_while PassesOwn.never (pt_cmpR (op_neD hr.units) (pv 2) (pe_lst pa_nil) (nomark _))
        (pss_one (ps_expr (pe_bm PySem.F.plainAttrs_list PySem.F.slot_list_append PySem.F.type_list_append mt_append (pv 3) (pa_cons (pe_bm PySem.F.plainAttrs_list PySem.F.slot_list_pop PySem.F.type_list_pop mt_popAt (pv 2)
          (pa_cons (pe_call GN hr rfl mN FN.kp bN .nil pass0 (pa_cons (pv 0) (pa_cons (pe_callB call_len_seq (by rfl) mlen PySem.boot_len (pa_cons (pv 2) pa_nil)) pa_nil))) pa_nil)) pa_nil)))))
      (pss_one (ps_ret (pv 3))))), ?_⟩
    refine ⟨_, rfl, b, _, rfl, .inl (SqL.of hB), fun l hl => ?_⟩
    refine ⟨by show 0 ≤ sizeLine; decide, fun p hp => ?_⟩
    have S0 := hS
    obtain ⟨x0, y0, z0, hS0⟩ := hS
    have al : a ≠ l := ne_of_none hS0 hl
    have hl1 : L2.upd H l (.lst xs) l = some (.lst xs) := upd_same
    have ap : a ≠ p := ne_of_none (show L2.upd H l (.lst xs) a = some _ by rw [upd_ne al]; exact hS0) hp
    have lp : l ≠ p := ne_of_none hl1 hp
    have hp0 : H p = none := by rw [upd_ne lp.symm] at hp; exact hp
    have s1 : Same H (L2.upd (L2.upd H l (.lst xs)) p (.lst [])) := fun c o e => by
      rw [upd_ne (ne_of_none e hp0), upd_ne (ne_of_none e hl)]; exact e
    refine while_by (fun σ H' => ∃ left found, σ = [some (.ref a), some (.ref b), some (.ref l), some (.ref p)] ∧ H' l = some (.lst left) ∧ H' p = some (.lst found) ∧ (left ++ found).Perm xs ∧ Src H' a ∧ But a H H')
      (fun _ H' => match H' l with | some (.lst ys) => ys.length | _ => 0) ?_ ?_ ?_
    · exact ⟨xs, [], rfl, by rw [upd_ne lp]; exact upd_same, upd_same, by simp, ⟨x0, y0, z0, s1 _ _ hS0⟩, But.of_same s1⟩
    · rintro σ H' ⟨left, found, rfl, e1, e2, pm, S', B'⟩
      have lenx : left.length + found.length = xs.length := by have := pm.length_eq; rw [List.length_append] at this; exact this
      have each : ∀ x ∈ left, Item H' x := fun x hx => (hI x (pm.mem_iff.mp (List.mem_append_left _ hx))).but S0 B'
      refine ⟨_, rfl, by show 0 ≤ sizeLine; decide, fun q hq => ?_⟩
      have nq : ∀ {c : Addr} {o : HO}, H' c = some o → L2.upd H' q (.lst []) c = some o := fun e => by rw [upd_ne (ne_of_none e hq)]; exact e
      have each2 : ∀ x ∈ left, Item (L2.upd H' q (.lst [])) x := fun x hx => (each x hx).but S' (But.new hq)
      obtain ⟨ds, d1, d2, d3, d4⟩ := items_dp (K := K) each2
      refine ⟨.list ds, .list [], .lst (SqL.of (nq e1)) d1, .lst (SqL.of upd_same) .nil, ?_, by decide, _, rfl, ?_⟩
      · have c1 : (PyData.list ds).canLay0 = true := by simp [PyData.canLay0, d3]
        have c2 : (PyData.list ds).depth = PyData.depthAll ds + 1 := by first | rfl | simp [PyData.depth, Nat.add_comm]
        unfold SeqAt.shaped; rw [c1, c2]; simp; omega
      rw [eqv_nil]
      cases left with
      | nil =>
        have : ds = [] := by cases ds with | nil => rfl | cons _ _ => simp at d2
        subst this
        refine iteF ⟨_, rfl, ?_⟩
        refine k p found _ (by simpa using pm) hp0 (nq e2) ?_ (B'.trans (But.new hq))
        obtain ⟨x1, y1, z1, S'⟩ := S'
        exact ⟨x1, y1, z1, nq S'⟩
      | cons y0 left =>
        have : ds ≠ [] := by intro e; rw [e] at d2; simp at d2
        rw [decide_eq_false this]
        refine iteT ?_
        refine ⟨_, rfl, .inl ⟨rfl, _, SqL.of (nq e2)⟩, _, rfl, .inl ⟨rfl, _, SqL.of (nq e1)⟩, _, rfl, _, rfl, l, _, rfl, .inl (SqL.of (nq e1)), a, _, rfl, ?_, by first | (simp; done) | (simp; omega), by simp at lenx ⊢; omega, fun r H2 r0 r1 S2 B2 => ?_⟩
        · obtain ⟨x1, y1, z1, S'⟩ := S'
          exact ⟨x1, y1, z1, nq S'⟩
        obtain ⟨j, rfl⟩ : ∃ j : Nat, r = j := ⟨r.toNat, by omega⟩
        have hj : j < (y0 :: left).length := by simp at r1 ⊢; omega
        have e1' := B2 l _ al.symm (nq e1)
        have e2' := B2 p _ ap.symm (nq e2)
        refine ⟨l, _, _, j, _, rfl, rfl, e1', by omega, by simp at hj lenx; omega, seqIndex_of (by omega) (by omega), List.getElem?_eq_getElem hj, ?_⟩
        have e2'' : L2.upd H2 l (.lst ((y0 :: left).eraseIdx j)) p = some (.lst found) := by rw [upd_ne lp.symm]; exact e2'
        refine ⟨p, _, _, rfl, rfl, e2'', by rw [sizeLine_eq]; simp at lenx; omega, ?_⟩
        have pe := erase_perm (List.getElem?_eq_getElem hj)
        obtain ⟨x2, y2, z2, S2⟩ := S2
        refine ⟨⟨(y0 :: left).eraseIdx j, found ++ [(y0 :: left)[j]], rfl, by rw [upd_ne lp]; exact upd_same, upd_same, ?_, ⟨x2, y2, z2, by rw [upd_ne ap, upd_ne al]; exact S2⟩, fun c o n e => ?_⟩, ?_⟩
        · refine List.Perm.trans ?_ pm
          have q1 : ((y0 :: left).eraseIdx j ++ (found ++ [(y0 :: left)[j]])).Perm ((y0 :: left)[j] :: (y0 :: left).eraseIdx j ++ found) := by
            rw [← List.append_assoc]
            exact (List.perm_append_comm).trans (List.Perm.refl _)
          exact q1.trans (pe.append_right found)
        · rw [upd_ne (ne_of_none e hp0), upd_ne (ne_of_none e hl)]
          exact B2 c o n (nq (B' c o n e))
        · show (match L2.upd (L2.upd H2 l _) p _ l with | some (.lst ys) => ys.length | _ => 0) < (match H' l with | some (.lst ys) => ys.length | _ => 0)
          rw [upd_ne lp, upd_same, e1]
          show ((y0 :: left).eraseIdx j).length < (y0 :: left).length
          rw [List.length_eraseIdx_of_lt hj]; simp
    · rintro σ H' Q1 Q2 m ⟨v, ev, hz, q⟩
      exact ⟨v, ev, hz, fun p hp => let ⟨d, e, c1, c2, c3, c4, kk, ek, q⟩ := q p hp; ⟨d, e, c1, c2, c3, c4, kk, ek, m _ _ q⟩⟩
end
end CP
namespace CP
open PySem L2
abbrev sInit : Stmt := inClass (top 11) 0
abbrev sApart : Stmt := top 12
abbrev sRow : Stmt := top 13
abbrev sCouple : Stmt := top 14
abbrev sName : Stmt := top 15
abbrev sVerts : Stmt := top 16
abbrev sEdges : Stmt := top 17
abbrev sAmong : Stmt := top 18
abbrev sJoins : Stmt := top 19
/-- u < v as Python compares texts -/
def ltS (u v : Str) : Bool := decide (u.cps.toList < v.cps.toList)
def spRow : Sp := fun vs H Q _ => ∃ (a : Addr) (xs : List V), vs = [.ref a] ∧ (H a = some (.lst xs) ∨ H a = some (.tup xs)) ∧ ∀ H', Same H H' → Q (.bl true) H'
def spCouple : Sp := fun vs H Q _ => ∃ (a : Addr) (x y : V), vs = [.ref a] ∧ H a = some (.tup [x, y]) ∧ Q (.bl true) H
def spAmong (K : PySem.W.Frag) : Sp := fun vs H Q _ => ∃ (a : Addr) (ns : List Str) (z : Str), vs = [.ref a, .str z] ∧ (SqL K H a (ns.map V.str) ∨ SqT K H a (ns.map V.str)) ∧ Q (.bl (decide (z ∈ ns))) H
def spJoins (K : PySem.W.Frag) : Sp := fun vs H Q _ => ∃ (a p : Addr) (ns : List Str) (u v : Str), vs = [.ref a, .ref p] ∧ (SqL K H a (ns.map V.str) ∨ SqT K H a (ns.map V.str)) ∧ H p = some (.tup [.str u, .str v]) ∧ Q (.bl (decide (u ∈ ns) && (decide (v ∈ ns) && ltS u v))) H
def spApart : Sp := fun vs H Q _ => ∃ (p q : Addr) (u v x y : Str), vs = [.ref p, .ref q] ∧ H p = some (.tup [.str u, .str v]) ∧ H q = some (.tup [.str x, .str y]) ∧ Q (.bl (decide (u ≠ x ∧ u ≠ y ∧ v ≠ x ∧ v ≠ y))) H
section
variable {P : Program} {w : World} {K : PySem.W.Frag} {mg : Str → Option Value} {base : Heap}
theorem kit2 {K : PySem.W.Frag} {t : String} (h : t = "list" ∨ t = "tuple") : PySem.W.kitAny K (.type t) [.type "list", .type "tuple"] = some true := by
  rcases h with rfl | rfl
  · exact kitAny_cons (kit_ty (b := "list") (r := true) (by decide +kernel)) (fun z => nomatch z) (fun _ => rfl)
  · exact kitAny_cons (kit_ty (b := "list") (r := false) (by decide +kernel)) (fun _ => kitAny_cons (kit_ty (b := "tuple") (r := true) (by decide +kernel)) (fun z => nomatch z) (fun _ => rfl)) (fun z => nomatch z)
theorem scRow : FnScope ["value"] ["value"] (defScope sRow) := ⟨rfl, rfl, rfl, by decide +kernel, rfl, by decide +kernel, by decide +kernel⟩
theorem ok_row {f : Addr} {fd : FuncData} (F : Fun K "is_row" "is_row" sRow f fd) (mi : mg "isinstance" = none) (ml : mg "list" = none) (mt : mg "tuple" = none) : FnOk P w K mg base CX0 1 f fd ["value"] spRow := by
  refine F.ok scRow (fun vs H Q E h => ?_) (fun cdv A outer s H vs Q E hr h => ?_)
  · obtain ⟨a, xs, rfl, _⟩ := h; rfl
  · obtain ⟨a, xs, rfl, hA, k⟩ := h
    refine ⟨_, pss_one (ps_ret (pe_callB call_isiT (by rfl) mi (by decide +kernel) (pa_cons (pv 0) (pa_cons (pe_tup (pa_cons (pe_bltn (v := .ty "list") (by rfl) ml (by decide +kernel) rfl) (pa_cons (pe_bltn (v := .ty "tuple") (by rfl) mt (by decide +kernel) rfl) pa_nil))) pa_nil)))), ?_⟩
    refine ⟨_, rfl, by show 2 ≤ sizeLine; decide, fun t ht => ?_⟩
    have s1 : Same H (L2.upd H t (.tup [.ty "list", .ty "tuple"])) := fun c o e => by rw [upd_ne (ne_of_none e ht)]; exact e
    rcases hA with hA | hA
    · exact ⟨_, t, _, .type "list", _, true, rfl, upd_same, .cons (.ty _) (.cons (.ty _) .nil), .base (.lst (s1 _ _ hA)), kit2 (.inl rfl), k _ s1⟩
    · exact ⟨_, t, _, .type "tuple", _, true, rfl, upd_same, .cons (.ty _) (.cons (.ty _) .nil), .base (.tup (s1 _ _ hA)), kit2 (.inr rfl), k _ s1⟩
theorem scCouple : FnScope ["value"] ["value"] (defScope sCouple) := ⟨rfl, rfl, rfl, by decide +kernel, rfl, by decide +kernel, by decide +kernel⟩
theorem ok_couple {f : Addr} {fd : FuncData} (F : Fun K "is_couple" "is_couple" sCouple f fd) (mi : mg "isinstance" = none) (ml : mg "len" = none) (mt : mg "tuple" = none) : FnOk P w K mg base CX0 1 f fd ["value"] spCouple := by
  refine F.ok scCouple (fun vs H Q E h => ?_) (fun cdv A outer s H vs Q E hr h => ?_)
  · obtain ⟨a, x, y, rfl, _⟩ := h; rfl
  · obtain ⟨a, x, y, rfl, hA, k⟩ := h
    refine ⟨_, pss_one (ps_ret (pe_and (pe_callB call_isi (by rfl) mi (by decide +kernel) (pa_cons (pv 0) (pa_cons (pe_bltn (v := .ty "tuple") (by rfl) mt (by decide +kernel) rfl) pa_nil)))
      (pe_one (pe_cmpR op_eq (pe_callB call_len_seq (by rfl) ml PySem.boot_len (pa_cons (pv 0) pa_nil)) pe_int (nomark _))))), ?_⟩
    refine ⟨_, rfl, _, _, .type "tuple", _, true, rfl, .ty _, .base (.tup hA), kit_ty (by decide +kernel), _, rfl, iteT ?_⟩
    refine ⟨_, rfl, a, _, rfl, .inr (SqT.of hA), rfl, ?_⟩
    exact k
theorem scAmong : FnScope ["vertices", "value"] ["vertices", "value"] (defScope sAmong) := ⟨rfl, rfl, rfl, by decide +kernel, rfl, by decide +kernel, by decide +kernel⟩
theorem inV_txt (z : Str) (ns : List Str) : inV (.str z) (ns.map V.str) = decide (z ∈ ns) := by
  have e : inV (.str z) (ns.map V.str) = ns.any (fun n => n == z) := by
    unfold inV; rw [List.any_map]; rfl
  rw [e]
  by_cases c : z ∈ ns
  · rw [decide_eq_true c]; exact List.any_eq_true.mpr ⟨z, c, by simp⟩
  · rw [decide_eq_false c]
    cases h : ns.any (fun n => n == z) with
    | false => rfl
    | true =>
      obtain ⟨n, hn, q⟩ := List.any_eq_true.mp h
      exact absurd (by have := beq_iff_eq.mp q; rw [this] at hn; exact hn) c
theorem flat_txt (ns : List Str) : (ns.map V.str).all flatV = true := by simp [List.all_eq_true, flatV]
theorem ok_among {f : Addr} {fd : FuncData} (F : Fun K "is_among" "is_among" sAmong f fd) (mi : mg "isinstance" = none) (ms : mg "str" = none) : FnOk P w K mg base CX0 1 f fd ["vertices", "value"] (spAmong K) := by
  refine F.ok scAmong (fun vs H Q E h => ?_) (fun cdv A outer s H vs Q E hr h => ?_)
  · obtain ⟨a, ns, z, rfl, _⟩ := h; rfl
  · obtain ⟨a, ns, z, rfl, hA, k⟩ := h
    refine ⟨_, pss_one (ps_ret (pe_and (pe_callB call_isi (by rfl) mi (by decide +kernel) (pa_cons (pv 1) (pa_cons (pe_bltn (v := .ty "str") (by rfl) ms (by decide +kernel) rfl) pa_nil))) (pe_one (pe_cmpR op_in_seq (pv 1) (pv 0) rfl)))), ?_⟩
    refine ⟨_, rfl, _, _, .type "str", _, true, rfl, .ty _, .base (.str z), kit_ty (by decide +kernel), _, rfl, iteT ?_⟩
    refine ⟨_, rfl, _, rfl, a, _, rfl, hA, rfl, flat_txt ns, ?_⟩
    rw [inV_txt]; exact k
theorem scJoins : FnScope ["vertices", "value", "low", "high"] ["vertices", "value"] (defScope sJoins) := ⟨rfl, rfl, rfl, by decide +kernel, rfl, by decide +kernel, by decide +kernel⟩
theorem ok_joins {f fC fA : Addr} {fd fdC fdA : FuncData} (F : Fun K "joins" "joins" sJoins f fd) (mC : mg "is_couple" = some (.ref fC)) (FC : FnOk P w K mg base CX0 1 fC fdC ["value"] spCouple) (kC : PySem.W.keepIn K (.ref fC) = true) (bC : Binds K fdC ["value"] [])
    (mA : mg "is_among" = some (.ref fA)) (FA : FnOk P w K mg base CX0 1 fA fdA ["vertices", "value"] (spAmong K)) (kA : PySem.W.keepIn K (.ref fA) = true) (bA : Binds K fdA ["vertices", "value"] []) : FnOk P w K mg base CX0 2 f fd ["vertices", "value"] (spJoins K) := by
  refine F.ok scJoins (fun vs H Q E h => ?_) (fun cdv A outer s H vs Q E hr h => ?_)
  · obtain ⟨a, p, ns, u, v, rfl, _⟩ := h; rfl
  · obtain ⟨a, p, ns, u, v, rfl, hA, hP, k⟩ := h
    refine ⟨_, pss_cons (ps_if (pt_not (pt_val (pe_call FC hr rfl mC kC bC .nil pass0 (pa_cons (pv 1) pa_nil)))) (pss_one (ps_ret pe_bl)) pss_nil)
      (pss_cons (ps_asg (pv 1) (pg_tup rfl (pgs_cons (pg_name (i := 2) scJoins.nd rfl (Or.inl rfl)) (pgs_cons (pg_name (i := 3) scJoins.nd rfl (Or.inl rfl)) pgs_nil))))
      (pss_one (ps_ret (pe_and (pe_call FA hr rfl mA kA bA .nil pass0 (pa_cons (pv 0) (pa_cons (pv 2) pa_nil))) (pe_and (pe_call FA hr rfl mA kA bA .nil pass0 (pa_cons (pv 0) (pa_cons (pv 3) pa_nil))) (pe_one (pe_cmpR op_lt_str (pv 2) (pv 3) (nomark _)))))))), ?_⟩
    refine ⟨_, rfl, p, _, _, rfl, hP, _, rfl, iteF ?_⟩
    refine ⟨_, rfl, p, _, rfl, SqT.of hP, rfl, _, _, rfl, _, _, rfl, rfl, ?_⟩
    refine ⟨_, rfl, _, rfl, a, ns, u, rfl, hA, _, rfl, ?_⟩
    by_cases c1 : u ∈ ns
    · rw [decide_eq_true c1] at k ⊢
      refine iteT ⟨_, rfl, _, rfl, a, ns, v, rfl, hA, _, rfl, ?_⟩
      by_cases c2 : v ∈ ns
      · rw [decide_eq_true c2] at k ⊢
        exact iteT ⟨_, rfl, _, rfl, _, _, rfl, rfl, k⟩
      · rw [decide_eq_false c2] at k ⊢
        exact iteF k
    · rw [decide_eq_false c1] at k ⊢
      exact iteF k
theorem scApart : FnScope ["one", "other"] ["one", "other"] (defScope sApart) := ⟨rfl, rfl, rfl, by decide +kernel, rfl, by decide +kernel, by decide +kernel⟩
theorem ok_apart {f : Addr} {fd : FuncData} (F : Fun K "are_apart" "are_apart" sApart f fd) : FnOk P w K mg base CX0 1 f fd ["one", "other"] spApart := by
  refine F.ok scApart (fun vs H Q E h => ?_) (fun cdv A outer s H vs Q E hr h => ?_)
  · obtain ⟨p, q, u, v, x, y, rfl, _⟩ := h; rfl
  · obtain ⟨p, q, u, v, x, y, rfl, hP, hQ, k⟩ := h
    refine ⟨_, pss_one (ps_ret (pe_and (pe_cmpR op_notIn_seq (pe_ix ix_tup (pv 0) pe_int (fun _ _ => rfl)) (pv 1) rfl) (pe_one (pe_cmpR op_notIn_seq (pe_ix ix_tup (pv 0) pe_int (fun _ _ => rfl)) (pv 1) rfl)))), ?_⟩
    have two : ∀ z : Str, inV (.str z) [.str x, .str y] = decide (z ∈ [x, y]) := fun z => inV_txt z [x, y]
    refine ⟨_, rfl, p, _, _, _, rfl, rfl, SqT.of hP, (atI_nat (j := 0) rfl), _, rfl, q, _, rfl, .inr (SqT.of hQ), rfl, rfl, _, rfl, ?_⟩
    show if (!inV (.str u) [.str x, .str y]) = true then _ else _
    rw [two]
    by_cases c1 : u ∈ [x, y]
    · rw [decide_eq_true c1]
      refine iteF ?_
      have e : decide (u ≠ x ∧ u ≠ y ∧ v ≠ x ∧ v ≠ y) = false := decide_eq_false fun z => by simp at c1; rcases c1 with c | c <;> simp_all
      rw [e] at k; exact k
    · rw [decide_eq_false c1]
      refine iteT ⟨_, rfl, p, _, _, _, rfl, rfl, SqT.of hP, (atI_nat (j := 1) rfl), _, rfl, q, _, rfl, .inr (SqT.of hQ), rfl, rfl, ?_⟩
      show Q (.bl (!inV (.str v) [.str x, .str y])) _
      rw [two]
      have e : decide (u ≠ x ∧ u ≠ y ∧ v ≠ x ∧ v ≠ y) = !decide (v ∈ [x, y]) := by
        simp only [List.mem_cons, List.not_mem_nil, or_false, not_or] at c1 ⊢
        by_cases c2 : v = x <;> by_cases c3 : v = y <;> simp [c1, c2, c3]
      rw [e] at k; exact k
end
end CP
namespace CP
open PySem L2
abbrev letters : Str := "abcdefghijklmnopqrstuvwxyz"
structure NameOk (z : Str) : Prop where
  pos : 0 < z.length
  most : z.length ≤ 8
  all : ∀ c ∈ z.cps.toList, c ∈ letters.cps.toList
def spName : Sp := fun vs H Q _ => ∃ z : Str, vs = [.str z] ∧ NameOk z ∧ ∀ H', Same H H' → Q (.bl true) H'
def spVerts : Sp := fun vs H Q _ => ∃ (a : Addr) (ns : List Str), vs = [.ref a] ∧ H a = some (.lst (ns.map V.str)) ∧ 0 < ns.length ∧ ns.length ≤ 8 ∧ ns.Nodup ∧ (∀ z ∈ ns, NameOk z) ∧ ∀ H', Same H H' → Q (.bl true) H'
/-- edges as tracked tuples: address and the two names -/
abbrev Ed := Addr × (Str × Str)
def EdAt (H : Hp) (p : Ed) : Prop := H p.1 = some (.tup [.str p.2.1, .str p.2.2])
/-- an edge between names of ns -/
def EdOk (ns : List Str) (e : Str × Str) : Prop := e.1 ∈ ns ∧ e.2 ∈ ns ∧ ltS e.1 e.2 = true
def spEdges : Sp := fun vs H Q _ => ∃ (a b : Addr) (ns : List Str) (ks : List Ed), vs = [.ref a, .ref b] ∧ H a = some (.lst (ns.map V.str)) ∧ H b = some (.lst (ks.map fun p => V.ref p.1)) ∧ (∀ p ∈ ks, EdAt H p) ∧ (∀ p ∈ ks, EdOk ns p.2) ∧
  (ks.map (·.2)).Nodup ∧ ks.length ≤ 18 ∧ ∀ H', Same H H' → Q (.bl true) H'
theorem Same.new {H : Hp} {p : Addr} {o : HO} (h : H p = none) : Same H (L2.upd H p o) := fun c u e => by rw [upd_ne (ne_of_none e h)]; exact e
/-- the list at D grows: what stood before D stands -/
theorem Same.grow {H H' : Hp} {D : Addr} {o : HO} (h : H D = none) (s : Same H H') : Same H (L2.upd H' D o) := fun c u e => by rw [upd_ne (ne_of_none e h)]; exact s c u e
section
variable {P : Program} {w : World} {K : PySem.W.Frag} {mg : Str → Option Value} {base : Heap}
theorem scName : FnScope ["value", "letter"] ["value"] (defScope sName) := ⟨rfl, rfl, rfl, by decide +kernel, rfl, by decide +kernel, by decide +kernel⟩
theorem ok_name {f : Addr} {fd : FuncData} {t1 t2 : Tok} (F : Fun K "is_name" "is_name" sName f fd) (mi : mg "isinstance" = none) (ms : mg "str" = none) (ml : mg "len" = none) (ma : mg "all" = none) (mL : mg "LETTERS" = some (.str letters t1)) (mN : mg "LONGEST_NAME" = some (.int 8 t2)) :
    FnOk P w K mg base CX0 1 f fd ["value"] spName := by
  refine F.ok scName (fun vs H Q E h => ?_) (fun cdv A outer s H vs Q E hr h => ?_)
  · obtain ⟨z, rfl, _⟩ := h; rfl
  · obtain ⟨z, rfl, N, k⟩ := h
    refine ⟨_, pss_cons (ps_if (PW.pt (pw_or (pt_not (pt_val (pe_callB call_isi (by rfl) mi (by decide +kernel) (pa_cons (pv 0) (pa_cons (pe_bltn (v := .ty "str") (by rfl) ms (by decide +kernel) rfl) pa_nil)))))
        (pw_or (pt_cmpR op_eq (pe_callB call_len_str (by rfl) ml PySem.boot_len (pa_cons (pv 0) pa_nil)) pe_int (nomark _)) (pw_or1 (pt_cmpR op_gt (pe_callB call_len_str (by rfl) ml PySem.boot_len (pa_cons (pv 0) pa_nil)) (pe_glob (v := .int 8) rfl mN ⟨_, rfl⟩) (nomark _))))))
        (pss_one (ps_ret pe_bl)) pss_nil)
      (pss_one (ps_ret (pe_callB (cr_all rfl) (by rfl) ma (by decide +kernel) (pa_cons (pe_lc (own := [("letter", 1)]) (g := gName 1) (tt := tYes) rfl scName.nd (pi_str (pv 0)) (blkOk_by (own := [("letter", 1)]) (N := ["value", "letter"]) (sc := defScope sName) (by decide +kernel))
        (fun _ _ _ _ _ => pg_name (i := 1) scName.nd rfl (Or.inl rfl)) (fun _ _ _ _ _ => pts_nil) (fun _ _ _ _ _ => pe_cmpR op_in_sign (pv 1) (pe_glob (v := .str letters) rfl mL ⟨_, rfl⟩) rfl)) pa_nil)))), ?_⟩
    have hz : z.length ≤ sizeLine := by have := N.most; rw [sizeLine_eq]; omega
    refine ⟨_, rfl, _, _, .type "str", _, true, rfl, .ty _, .base (.str z), kit_ty (by decide +kernel), _, rfl, iteF ?_⟩
    refine ⟨_, rfl, z, rfl, hz, rfl, _, rfl, ?_⟩
    rw [decide_eq_false (by intro e; have := N.pos; injection e with e; omega)]
    refine iteF ⟨_, rfl, z, rfl, hz, _, _, rfl, rfl, _, rfl, ?_⟩
    rw [decide_eq_false (by have := N.most; omega)]
    refine iteF ?_
    refine ⟨_, rfl, z, rfl, fun D hD => lc_it walk_str (fun i H' => H' D = some (.lst ((List.replicate i true).map V.bl)) ∧ Same H H') ⟨upd_same, Same.new hD⟩ (fun _ _ _ _ => True.intro) ?_ ?_⟩
    · rintro i x H1 H2 hi ⟨e1, s1⟩ ⟨rfl, c, hc, rfl⟩
      refine ⟨rfl, _, rfl, c, letters, rfl, rfl, _, e1, by rw [List.length_map, List.length_replicate, sizeLine_eq]; have := N.most; have e : z.cps.size = z.length := rfl; omega, ?_, Same.grow hD s1⟩
      rw [decide_eq_true (N.all c (by simpa using Array.mem_of_getElem? hc)), upd_same, List.replicate_succ', List.map_append]; rfl
    · rintro H1 ⟨e1, s1⟩
      refine ⟨D, List.replicate z.cps.size true, rfl, SqL.of e1, ?_⟩
      have e : (List.replicate z.cps.size true).all id = true := by simp
      rw [e]; exact k _ s1
theorem scVerts : FnScope ["value", "name"] ["value"] (defScope sVerts) := ⟨rfl, rfl, rfl, by decide +kernel, rfl, by decide +kernel, by decide +kernel⟩
theorem ok_verts {f fR fN : Addr} {fd fdR fdN : FuncData} {t1 : Tok} (F : Fun K "are_vertices" "are_vertices" sVerts f fd) (ml : mg "len" = none) (ma : mg "all" = none) (mset : mg "set" = none) (mM : mg "MOST_VERTICES" = some (.int 8 t1))
    (mR : mg "is_row" = some (.ref fR)) (FR : FnOk P w K mg base CX0 1 fR fdR ["value"] spRow) (kR : PySem.W.keepIn K (.ref fR) = true) (bR : Binds K fdR ["value"] [])
    (mN : mg "is_name" = some (.ref fN)) (FN : FnOk P w K mg base CX0 1 fN fdN ["value"] spName) (kN : PySem.W.keepIn K (.ref fN) = true) (bN : Binds K fdN ["value"] []) : FnOk P w K mg base CX0 2 f fd ["value"] spVerts := by
  refine F.ok scVerts (fun vs H Q E h => ?_) (fun cdv A outer s H vs Q E hr h => ?_)
  · obtain ⟨a, ns, rfl, _⟩ := h; rfl
  · obtain ⟨a, ns, rfl, hA, h0, h8, nd, each, k⟩ := h
    refine ⟨_, pss_cons (ps_if (PW.pt (pw_or (pt_not (pt_val (pe_call FR hr rfl mR kR bR .nil pass0 (pa_cons (pv 0) pa_nil))))
        (pw_or (pt_cmpR op_eq (pe_callB call_len_seq (by rfl) ml PySem.boot_len (pa_cons (pv 0) pa_nil)) pe_int (nomark _)) (pw_or1 (pt_cmpR op_gt (pe_callB call_len_seq (by rfl) ml PySem.boot_len (pa_cons (pv 0) pa_nil)) (pe_glob (v := .int 8) rfl mM ⟨_, rfl⟩) (nomark _))))))
        (pss_one (ps_ret pe_bl)) pss_nil)
      (pss_one (ps_ret (pe_and (pe_callB (cr_all rfl) (by rfl) ma (by decide +kernel) (pa_cons (pe_lc (own := [("name", 1)]) (g := gName 1) (tt := tYes) rfl scVerts.nd (pi_list (pv 0)) (blkOk_by (own := [("name", 1)]) (N := ["value", "name"]) (sc := defScope sVerts) (by decide +kernel))
        (fun _ _ _ _ _ => pg_name (i := 1) scVerts.nd rfl (Or.inl rfl)) (fun _ _ _ _ _ => pts_nil) (fun _ _ _ _ _ => pe_call FN hr rfl mN kN bN .nil pass0 (pa_cons (pv 1) pa_nil))) pa_nil))
        (pe_one (pe_cmpR op_eq (pe_lenSetX rfl (by rfl) ml (by rfl) mset (pv 0)) (pe_callB call_len_seq (by rfl) ml PySem.boot_len (pa_cons (pv 0) pa_nil)) (nomark _)))))), ?_⟩
    refine ⟨_, rfl, a, _, rfl, .inl hA, fun H1 s1 => ⟨_, rfl, iteF ?_⟩⟩
    have hA1 := s1 _ _ hA
    refine ⟨_, rfl, a, _, rfl, .inl (SqL.of hA1), rfl, _, rfl, ?_⟩
    rw [decide_eq_false (by intro e; injection e with e; rw [List.length_map] at e; omega)]
    refine iteF ⟨_, rfl, a, _, rfl, .inl (SqL.of hA1), _, _, rfl, rfl, _, rfl, ?_⟩
    rw [decide_eq_false (by rw [List.length_map]; omega)]
    refine iteF ?_
    refine ⟨_, rfl, a, rfl, ⟨_, SqL.of hA1⟩, fun D hD => lc_list (K := K) (a := a) (xs := ns.map V.str) (fun i H' => H' D = some (.lst ((List.replicate i true).map V.bl)) ∧ Same H1 H') ⟨upd_same, Same.new hD⟩ (fun i H' _ ⟨_, s2⟩ => SqL.of (s2 _ _ hA1)) ?_ ?_⟩
    · rintro i x H2 hi ⟨e1, s2⟩
      have li : i < ns.length := by have := (List.getElem?_eq_some_iff.mp hi).1; rw [List.length_map] at this; exact this
      rw [List.getElem?_map, List.getElem?_eq_getElem li] at hi
      obtain rfl : V.str ns[i] = x := Option.some.inj hi
      refine ⟨rfl, _, rfl, _, rfl, each _ (List.getElem_mem li), fun H3 s3 => ⟨_, s3 _ _ e1, by rw [List.length_map, List.length_replicate, sizeLine_eq]; omega, ?_, Same.grow hD (s2.trans s3)⟩⟩
      rw [upd_same, List.replicate_succ', List.map_append]; rfl
    · rintro H2 ⟨e1, s2⟩
      refine ⟨D, _, rfl, SqL.of e1, _, rfl, ?_⟩
      have e : (List.replicate (ns.map V.str).length true).all id = true := by simp
      rw [e]
      refine iteT ⟨_, rfl, a, ns, rfl, .inl (SqL.of (s2 _ _ hA1)), by omega, fun n _ q => ⟨_, rfl, a, _, rfl, .inl (SqL.of (s2 _ _ hA1)), rfl, ?_⟩⟩
      rw [q.mpr nd, decide_eq_true (by rw [List.length_map])]
      exact k _ (s1.trans s2)
theorem scEdges : FnScope ["vertices", "value", "edge"] ["vertices", "value"] (defScope sEdges) := ⟨rfl, rfl, rfl, by decide +kernel, rfl, by decide +kernel, by decide +kernel⟩
theorem ok_edges {f fR fJ : Addr} {fd fdR fdJ : FuncData} {t1 : Tok} (F : Fun K "are_edges" "are_edges" sEdges f fd) (ml : mg "len" = none) (ma : mg "all" = none) (mset : mg "set" = none) (mM : mg "MOST_EDGES" = some (.int 18 t1))
    (mR : mg "is_row" = some (.ref fR)) (FR : FnOk P w K mg base CX0 1 fR fdR ["value"] spRow) (kR : PySem.W.keepIn K (.ref fR) = true) (bR : Binds K fdR ["value"] [])
    (mJ : mg "joins" = some (.ref fJ)) (FJ : FnOk P w K mg base CX0 2 fJ fdJ ["vertices", "value"] (spJoins K)) (kJ : PySem.W.keepIn K (.ref fJ) = true) (bJ : Binds K fdJ ["vertices", "value"] []) : FnOk P w K mg base CX0 3 f fd ["vertices", "value"] spEdges := by
  refine F.ok scEdges (fun vs H Q E h => ?_) (fun cdv A outer s H vs Q E hr h => ?_)
  · obtain ⟨a, b, ns, ks, rfl, _⟩ := h; rfl
  · obtain ⟨a, b, ns, ks, rfl, hA, hB, hat, hok, nd, h18, k⟩ := h
    have hr1 : Room 1 _ := hr.mono (by decide)
    refine ⟨_, pss_cons (ps_if (PW.pt (pw_or (pt_not (pt_val (pe_call FR hr1 rfl mR kR bR .nil pass0 (pa_cons (pv 1) pa_nil))))
        (pw_or1 (pt_cmpR op_gt (pe_callB call_len_seq (by rfl) ml PySem.boot_len (pa_cons (pv 1) pa_nil)) (pe_glob (v := .int 18) rfl mM ⟨_, rfl⟩) (nomark _)))))
        (pss_one (ps_ret pe_bl)) pss_nil)
      (pss_one (ps_ret (pe_and (pe_callB (cr_all rfl) (by rfl) ma (by decide +kernel) (pa_cons (pe_lc (own := [("edge", 2)]) (g := gName 2) (tt := tYes) rfl scEdges.nd (pi_list (pv 1)) (blkOk_by (own := [("edge", 2)]) (N := ["vertices", "value", "edge"]) (sc := defScope sEdges) (by decide +kernel))
        (fun _ _ _ _ _ => pg_name (i := 2) scEdges.nd rfl (Or.inl rfl)) (fun _ _ _ _ _ => pts_nil) (fun _ _ _ _ _ => pe_call FJ hr rfl mJ kJ bJ .nil pass0 (pa_cons (pv 0) (pa_cons (pv 2) pa_nil)))) pa_nil))
        (pe_one (pe_cmpR op_eq (pe_lenSetP rfl (by rfl) ml (by rfl) mset hr.units (pv 1)) (pe_callB call_len_seq (by rfl) ml PySem.boot_len (pa_cons (pv 1) pa_nil)) (nomark _)))))), ?_⟩
    refine ⟨_, rfl, b, _, rfl, .inl hB, fun H1 s1 => ⟨_, rfl, iteF ?_⟩⟩
    have hA1 := s1 _ _ hA
    have hB1 := s1 _ _ hB
    refine ⟨_, rfl, b, _, rfl, .inl (SqL.of hB1), _, _, rfl, rfl, _, rfl, ?_⟩
    rw [decide_eq_false (by rw [List.length_map]; omega)]
    refine iteF ?_
    refine ⟨_, rfl, b, rfl, ⟨_, SqL.of hB1⟩, fun D hD => lc_list (K := K) (a := b) (xs := ks.map fun p => V.ref p.1) (fun i H' => H' D = some (.lst ((List.replicate i true).map V.bl)) ∧ Same H1 H') ⟨upd_same, Same.new hD⟩ (fun i H' _ ⟨_, s2⟩ => SqL.of (s2 _ _ hB1)) ?_ ?_⟩
    · rintro i x H2 hi ⟨e1, s2⟩
      have li : i < ks.length := by have := (List.getElem?_eq_some_iff.mp hi).1; rw [List.length_map] at this; exact this
      rw [List.getElem?_map, List.getElem?_eq_getElem li] at hi
      obtain rfl : V.ref ks[i].1 = x := Option.some.inj hi
      have mem := List.getElem_mem li
      obtain ⟨o1, o2, o3⟩ := hok _ mem
      refine ⟨rfl, _, rfl, _, rfl, a, ks[i].1, ns, ks[i].2.1, ks[i].2.2, rfl, .inl (SqL.of (s2 _ _ hA1)), s2 _ _ (s1 _ _ (hat _ mem)), _, e1, by rw [List.length_map, List.length_replicate, sizeLine_eq]; omega, ?_, Same.grow hD s2⟩
      rw [upd_same, List.replicate_succ', List.map_append, decide_eq_true o1, decide_eq_true o2, o3]; rfl
    · rintro H2 ⟨e1, s2⟩
      refine ⟨D, _, rfl, SqL.of e1, _, rfl, ?_⟩
      have e : (List.replicate (ks.map fun p => V.ref p.1).length true).all id = true := by simp
      rw [e]
      refine iteT ⟨_, rfl, b, ks.map (fun p => (p.1, [p.2.1, p.2.2])), rfl, .inl (SqL.of ?_), ?_, by rw [List.length_map]; omega, fun n _ q => ⟨_, rfl, b, _, rfl, .inl (SqL.of (s2 _ _ hB1)), rfl, ?_⟩⟩
      · rw [List.map_map]; exact s2 _ _ hB1
      · intro p hp
        obtain ⟨p0, hp0, rfl⟩ := List.mem_map.mp hp
        exact SqT.of (s2 _ _ (s1 _ _ (hat _ hp0)))
      · have nd2 : ((ks.map (fun p => (p.1, [p.2.1, p.2.2]))).map (·.2)).Nodup := by
          rw [List.map_map]
          have : ((fun x => x.2) ∘ fun p : Ed => (p.1, [p.2.1, p.2.2])) = (fun e : Str × Str => [e.1, e.2]) ∘ (fun p : Ed => p.2) := rfl
          rw [this, ← List.map_map]
          exact List.Pairwise.map _ (fun x y h e => h (by simp at e; exact Prod.ext e.1 e.2)) nd
        rw [q.mpr nd2, decide_eq_true (by simp)]
        exact k _ (s1.trans s2)
end
end CP
namespace CP
open PySem L2
/-! ### the order of edges -/
def encE (e : Str × Str) : PyData := .tuple [.str e.1, .str e.2]
def ltE (e f : Str × Str) : Bool := if e.1 = f.1 then (if e.2 = f.2 then false else ltS e.2 f.2) else ltS e.1 f.1
theorem eqv_str (x y : Str) : PyData.eqv (.str x) (.str y) = decide (x = y) := by
  simp only [PyData.eqv]
  by_cases h : x = y
  · subst h; simp
  · simp [h]
theorem dataLt_E (e f : Str × Str) : PySem.W.dataLt (encE e) (encE f) = ltE e f := by
  unfold encE ltE ltS
  rw [PySem.W.dataLt_pair (by simp [PySem.W.alike]) (by simp [PySem.W.alike]), eqv_str, eqv_str, PySem.W.dataLt_str, PySem.W.dataLt_str]
  by_cases h1 : e.1 = f.1 <;> by_cases h2 : e.2 = f.2 <;> simp [h1, h2]
theorem str_ext {x y : Str} (h : x.cps.toList = y.cps.toList) : x = y := PySem.W.str_of_cps h
theorem ltS_irrefl (x : Str) : ltS x x = false := by unfold ltS; exact decide_eq_false (List.lt_irrefl _)
theorem ltS_asymm {x y : Str} (h : ltS x y = true) : ltS y x = false := by
  unfold ltS at *
  exact decide_eq_false fun z => List.lt_irrefl _ (List.lt_trans (of_decide_eq_true h) z)
theorem ltS_total {x y : Str} (h : x ≠ y) (h2 : ltS x y = false) : ltS y x = true := by
  unfold ltS at *
  refine decide_eq_true ?_
  have n : ¬ x.cps.toList < y.cps.toList := of_decide_eq_false h2
  have le : y.cps.toList ≤ x.cps.toList := List.not_lt.mp n
  rcases List.le_iff_lt_or_eq.mp le with l | e
  · exact l
  · exact absurd (str_ext e.symm) h
theorem ltE_irrefl (e : Str × Str) : ltE e e = false := by simp [ltE]
theorem ltE_asymm {e f : Str × Str} (h : ltE e f = true) : ltE f e = false := by
  unfold ltE at *
  by_cases h1 : e.1 = f.1
  · rw [if_pos h1] at h; rw [if_pos h1.symm]
    by_cases h2 : e.2 = f.2
    · rw [if_pos h2] at h; cases h
    · rw [if_neg h2] at h; rw [if_neg fun z => h2 z.symm]; exact ltS_asymm h
  · rw [if_neg h1] at h; rw [if_neg fun z => h1 z.symm]; exact ltS_asymm h
theorem ltE_total {e f : Str × Str} (h : e ≠ f) (h2 : ltE e f = false) : ltE f e = true := by
  unfold ltE at *
  by_cases h1 : e.1 = f.1
  · rw [if_pos h1] at h2; rw [if_pos h1.symm]
    by_cases h3 : e.2 = f.2
    · exact absurd (Prod.ext h1 h3) h
    · rw [if_neg h3] at h2; rw [if_neg fun z => h3 z.symm]; exact ltS_total h3 h2
  · rw [if_neg h1] at h2; rw [if_neg fun z => h1 z.symm]; exact ltS_total h1 h2
def leD (p q : Ed) : Bool := PySem.W.dataLe false (fun p : Ed => encE p.2) p q
theorem leD_eq (p q : Ed) : leD p q = !ltE q.2 p.2 := by
  show (!PySem.W.dataLt (encE q.2) (encE p.2)) = _
  rw [dataLt_E]
theorem leD_total : PySem.W.TotalLe leD := by
  show PySem.W.TotalLe (PySem.W.dataLe false fun p : Ed => encE p.2)
  exact PySem.W.sortLe_total _ _ _
/-- the edges in ascending order -/
def sortE (ks : List Ed) : List Ed := ks.mergeSort leD
theorem sortE_perm (ks : List Ed) : (sortE ks).Perm ks := List.mergeSort_perm ks leD
theorem sortE_lt {ks : List Ed} (nd : (ks.map (·.2)).Nodup) : (sortE ks).Pairwise (fun p q => ltE p.2 q.2 = true) := by
  have h1 := PySem.W.sort_pairwise leD_total ks
  have h2 : ((sortE ks).map (·.2)).Nodup := ((sortE_perm ks).map _).nodup_iff.mpr nd
  rw [List.nodup_iff_pairwise_ne, List.pairwise_map] at h2
  refine (h1.and h2).imp fun {p q} ⟨a, b⟩ => ?_
  rw [leD_eq] at a
  have a' : ltE q.2 p.2 = false := by simpa using a
  exact ltE_total (fun z => b z.symm) a'
/-- a sorted arrangement is the one -/
theorem asc_unique : ∀ {l m : List Ed}, l.Perm m → l.Pairwise (fun p q => ltE p.2 q.2 = true) → m.Pairwise (fun p q => ltE p.2 q.2 = true) → l = m
  | [], m, h, _, _ => h.nil_eq
  | p :: l, [], h, _, _ => absurd h.length_eq (by simp)
  | p :: l, q :: m, h, h1, h2 => by
    have e : p = q := by
      by_cases c : p = q
      · exact c
      · have a : p ∈ m := by
          have := h.mem_iff.mp (List.mem_cons_self (a := p) (l := l))
          rcases List.mem_cons.mp this with z | z
          · exact absurd z c
          · exact z
        have b : q ∈ l := by
          have := h.mem_iff.mpr (List.mem_cons_self (a := q) (l := m))
          rcases List.mem_cons.mp this with z | z
          · exact absurd z.symm c
          · exact z
        have u := (List.pairwise_cons.mp h1).1 q b
        have v := (List.pairwise_cons.mp h2).1 p a
        rw [ltE_asymm u] at v; cases v
    subst e
    rw [asc_unique (List.Perm.cons_inv h) (List.pairwise_cons.mp h1).2 (List.pairwise_cons.mp h2).2]
section
variable {X : Cx}
def rSortE : List V → Hp → VK → Prop := fun vs H Q => ∃ (a : Addr) (ks : List Ed), vs = [V.ref a] ∧ H a = some (.lst (ks.map fun p => V.ref p.1)) ∧ (∀ p ∈ ks, EdAt H p) ∧ ks.length < 1000 ∧
  ∀ p, H p = none → Q (.ref p) (L2.upd H p (.lst ((sortE ks).map fun p => V.ref p.1)))
theorem each_refs : ∀ {ks : List Ed} {us : List Value}, PySem.W.EachIs (fun v (p : Ed) => v = Value.ref p.1) us ks → us = ks.map fun p => Value.ref p.1
  | [], _, .nil => rfl
  | p :: ks, _, .cons h t => by rw [h, each_refs t]; rfl
theorem refs_each : ∀ ks : List Ed, PySem.W.EachIs (fun v (p : Ed) => v = Value.ref p.1) (ks.map fun p => Value.ref p.1) ks
  | [] => .nil
  | p :: ks => .cons rfl (refs_each ks)
theorem vals_refs : ∀ ks : List Ed, Vals (ks.map fun p => V.ref p.1) (ks.map fun p => Value.ref p.1)
  | [] => .nil
  | p :: ks => .cons rfl (vals_refs ks)
theorem dp_edge {K : PySem.W.Frag} {H : Hp} {p : Ed} (h : EdAt H p) : Dp K H (.ref p.1) (encE p.2) := .tup (SqT.of h) (.cons (.str _) (.cons (.str _) .nil))
theorem reads_each {pins : List (Addr × Obj)} {σ : L2.St} {H : Hp} {s : Shared} (I : L2.Inv X pins σ H s) : ∀ {ks : List Ed}, (∀ p ∈ ks, EdAt H p) → PySem.W.EachIs (fun v (p : Ed) => ∃ as, Reads s.heap v (encE p.2) as) (ks.map fun p => Value.ref p.1) ks
  | [], _ => .nil
  | p :: ks, h => .cons (Dp.reads I _ _ _ (dp_edge (h p List.mem_cons_self)) rfl) (reads_each I fun q hq => h q (List.mem_cons_of_mem _ hq))
theorem cr_sortE (hu : X.A.units + 64 < cLine) : CallR X (.builtin "sorted") rSortE := by
  intro pins s σ H vs us Q I r h
  obtain ⟨a, ks, rfl, hA, hat, few, k⟩ := h
  obtain ⟨its, rv, pl, _⟩ := I.list (SqL.of hA)
  rw [Vals.ref1 r]
  have ei := refs_only (κ := Str × Str) rv
  subst ei
  refine PySem.W.sorted_data (β := Ed) (R := fun v p => v = Value.ref p.1) (enc := fun p => encE p.2) pl.isList (refs_each ks) (reads_each I hat) (PySem.W.AllAlike.of fun b b' => by simp [encE, PySem.W.alike, PySem.W.alikeAll]) (PySem.W.Sortable.tuples fun b => ⟨_, _, rfl⟩) (by rw [sizeLine_eq]; omega)
    (fun b _ => by simp [encE, PyData.depth, PyData.depthAll]; omega) fun out hl e => ?_
  have eo : out = (sortE ks).map fun p => Value.ref p.1 := each_refs e
  subst eo
  obtain ⟨ep, he⟩ := PyProof.Rows.sortedAll_at s.heap (ks.map fun p => Value.ref p.1) ((sortE ks).map fun p => Value.ref p.1).toArray
  have len : ((sortE ks).map fun p => V.ref p.1).length ≤ sizeLine := by rw [List.length_map, (sortE_perm ks).length_eq, sizeLine_eq]; omega
  exact ⟨.ref _, L2.upd H (s.heap.objs.size + 1) (.lst ((sortE ks).map fun p => V.ref p.1)), I.laid (t' := s.toks) (fun _ _ => PyProof.Rows.sortedAll_old) (Nat.le_succ _) ⟨len, _, ep, vals_refs _, he⟩, rfl, k _ (I.hok.fresh (Nat.le_succ _))⟩
def rLtE : R2 := fun x y H Q => ∃ p q : Ed, x = .ref p.1 ∧ y = .ref q.1 ∧ EdAt H p ∧ EdAt H q ∧ Q (.bl (ltE p.2 q.2)) H
theorem op_ltE (hu : X.A.units + 64 < cLine) : OpR X (compareOp .Lt) rLtE := by
  intro pins s σ H x y v u Q I rx ry h
  obtain ⟨p, q, rfl, rfl, hp, hq, k⟩ := h
  obtain ⟨as, r1⟩ := Dp.reads I (encE p.2) _ v (dp_edge hp) rx
  obtain ⟨bs, r2⟩ := Dp.reads I (encE q.2) _ u (dp_edge hq) ry
  have c := PySem.W.rcLt_alike (encE p.2) (encE q.2) X.A s v u as bs r1 r2 (by simp [encE, PySem.W.alike, PySem.W.alikeAll]) (by simp [encE]) (by simp [encE, PyData.depth, PyData.depthAll]; omega)
  rw [dataLt_E] at c
  exact c _ _ _ _ ⟨.bl _, H, I, rfl, k⟩
end
end CP
namespace CP
open PySem L2
open AutoSeq1 (wpAny_loadPart')
/-! ### enumerate(t), t a tuple -/
theorem new_enumT (l : Addr) (items : Array Value) (n : Nat) (dct : Option Addr) (sl : Array (Option Value)) :
    Meets (Builtin.«enumerate.__new__» ⟨[.type "enumerate", .ref l], []⟩) (fun _ R s => s.heap.get? l = some { cls := .type "tuple", dict := dct, data := .seq items n, slots := sl } ∧
      R (.ok (.ret (.ref (s.heap.push { cls := .type "tuple_iterator", data := .fields #[.ref l, .int 0 0] }).objs.size)))
        { s with heap := (s.heap.push { cls := .type "tuple_iterator", data := .fields #[.ref l, .int 0 0] }).push { cls := .type "enumerate", data := .fields #[.none, .bool false, .ref s.heap.objs.size, rawInt 0, .none, .none] } }) :=
  .of_wp fun prog w A R s h => by
    obtain ⟨hp, g, d, tk, os⟩ := s; obtain ⟨hl, h⟩ := h
    have m1 := sub_enumerate
    have hT : Heap.IsTuple (Shared.heap ⟨hp, g, d, tk, os⟩) l items := ⟨_, hl, rfl, n, rfl⟩
    wp_walk using wpAny_loadPart' hl
    refine wpAny_stack_any fun st => wpAny_pure ?_
    split
    · rename_i c _ _ _ _ _
      cases (c == Value.type "enumerate") <;> (wp_walk using wpAny_loadPart' hl, wpAny_pyIter_tuple hT; exact ⟨_, rfl, h⟩)
    · wp_walk using wpAny_loadPart' hl, wpAny_pyIter_tuple hT
      exact ⟨_, rfl, h⟩
section
variable {prog : Program} {w : World} {A : Around} {E : Value → Shared → Prop} {s : Shared}
abbrev tupIt (l : Addr) : Obj := { cls := .type "tuple_iterator", data := .fields #[.ref l, .int 0 0] }
abbrev enumOb (it : Addr) : Obj := { cls := .type "enumerate", data := .fields #[.none, .bool false, .ref it, rawInt 0, .none, .none] }
theorem call_enumT {l : Addr} {items : Array Value} {Q : Value → Shared → Prop} (hT : s.heap.IsTuple l items)
    (h : ∀ h', IsEnum h' (s.heap.objs.size + 1) s.heap.objs.size 0 .none → h'.IsTupleIter s.heap.objs.size l 0 → (∀ b o, s.heap.get? b = some o → h'.get? b = some o) → Q (.ref (s.heap.objs.size + 1)) { s with heap := h' }) :
    wpAny (model prog w) A (call (.type "enumerate") [.ref l]) Q E s := by
  obtain ⟨⟨c, dct, dt, sl⟩, hl, hc, n, hd⟩ := hT
  simp only at hc hd
  subst hc hd
  refine callType_new F.called_enumerate (by decide) (F.typeCall_enumerate_1 _) (F.newCall_enumerate_1 _) (fun obj => F.args_object_init_2 obj _) F.entry_enumerate_new (new_enumT l items n dct sl) ⟨hl, ?_⟩
  have hz : (s.heap.push (tupIt l)).objs.size = s.heap.objs.size + 1 := Heap.size_push ..
  show _ ∧ _
  rw [hz]
  have he : IsEnum ((s.heap.push (tupIt l)).push (enumOb s.heap.objs.size)) (s.heap.objs.size + 1) s.heap.objs.size 0 .none := by
    have q := Heap.get?_push_size (s.heap.push (tupIt l)) (o := enumOb s.heap.objs.size) rfl
    rw [hz] at q; exact q
  exact ⟨⟨_, he, rfl⟩, h _ he ⟨_, Heap.get?_push_of_some _ (Heap.get?_push_size _ rfl), rfl, rfl⟩ fun b o x => Heap.get?_push_of_some _ (Heap.get?_push_of_some _ x)⟩
end
def ItT (K : PySem.W.Frag) (a : Addr) : It :=
  ⟨fun i H => ∃ (xs : List V) (x : V), SqT K H a xs ∧ xs[i]? = some x, fun i H v H' => ∃ T x, v = .ref T ∧ H T = none ∧ H' = L2.upd H T (.tup [.int (i : Nat), x]) ∧ ∀ xs, SqT K H a xs → xs[i]? = some x, fun i H => ∃ xs : List V, SqT K H a xs ∧ xs.length = i⟩
theorem walk_enumT {K : PySem.W.Frag} {a : Addr} {xs : List V} : Walk (ItT K a) xs.length (fun H => SqT K H a xs) (YPair (fun i => some (.int (i : Nat))) (fun i => xs[i]?)) := by
  refine ⟨fun i _ hi q => ⟨xs, xs[i], q, by simp [hi]⟩, fun _ q => ⟨xs, q, rfl⟩, fun i H v H' _ q y => ?_⟩
  obtain ⟨T, x, h1, h2, h3, h4⟩ := y
  exact ⟨T, _, x, h1, h2, h3, rfl, h4 xs q⟩
theorem turn_enumT {P : Program} {w : World} {K : PySem.W.Frag} {elts : List Expr} {kk : Nat} {tpos : Pos} (a e it : Addr) :
    Turn P w K (.Tuple elts kk tpos) (ItT K a) [e, it] e (fun i h => (∃ old, IsEnum h e it ((i : Nat) : Int) old) ∧ h.IsTupleIter it a i ∧ e ≠ it) where
  mem := by simp
  obj := fun i h ⟨⟨old, he⟩, ⟨o, ho, hc, hd⟩, _⟩ b hb => by
    rcases (show b = e ∨ b = it by simpa using hb) with rfl | rfl
    · exact ⟨_, he, fun v q => nomatch q⟩
    · exact ⟨o, ho, fun v q => by rw [hd] at q; cases q⟩
  keep := fun i h h' ⟨⟨old, he⟩, hi, hne⟩ k => ⟨⟨old, k e (by simp) _ he⟩, hi.at fun o q => k it (by simp) o q, hne⟩
  item := by
    intro X hP hw hK hc i pins s σ H E I hf ⟨⟨old, he⟩, hit, hne⟩ ⟨xs, x, hq, hx⟩
    subst hP hw hK
    obtain ⟨its, rv, p, hz⟩ := I.tuple hq
    obtain ⟨u, hu, ru⟩ := rv.get hx
    have hel : e < s.heap.objs.size := Heap.lt_size he
    have hil : it < s.heap.objs.size := by obtain ⟨_, q, _⟩ := hit; exact Heap.lt_size q
    have ea : e ≠ a := fun z => by
      obtain ⟨o, ho, hc2, _⟩ := p
      rw [← z, he] at ho; cases ho; injection hc2 with hc2; exact absurd hc2 (by decide)
    have ia : a ≠ it := fun z => by
      obtain ⟨o, ho, hc2, _⟩ := p
      obtain ⟨o2, ho2, hc3, _⟩ := hit
      rw [z, ho2] at ho; cases ho; rw [hc3] at hc2; injection hc2 with hc2; exact absurd hc2 (by decide)
    have hiu : its.toArray[i]? = some u := by simpa using hu
    have li : i < its.toArray.size := (Array.getElem?_eq_some_iff.mp hiu).1
    refine wpAny_pyNext_enum_itemD (Draws.tuple (A := X.A.in1) (by simp [I.ok.hd hc]) it a ia its.toArray) he ⟨hit, p⟩ li hne (by simp [hne, ea]) fun x' h' tk px ho st' hT hsz hk => ?_
    obtain rfl : x' = u := Option.some.inj (px.symm.trans hiu)
    refine ⟨_, rfl, wpAny_letOwnedTupleGo_enum (s := { s with heap := h', toks := tk + 1 }) ho fun h'' he' sb => ?_⟩
    have hT2 : h''.get? s.heap.objs.size = some { cls := .type "tuple", data := .seq #[.int i tk, x'] } := (sb.2 _ (Nat.ne_of_gt hel)).trans hT
    have new : ObjOk X.prog X.w (L2.upd H s.heap.objs.size (.tup [.int (i : Nat), x])) h'' s.heap.objs.size (.tup [.int (i : Nat), x]) :=
      ⟨by show 2 ≤ sizeLine; decide, [.int i tk, x'], .cons ⟨_, rfl⟩ (.cons ru .nil), ⟨_, hT2, rfl, _, rfl⟩⟩
    have I1 : L2.Inv X pins σ (L2.upd H s.heap.objs.size (.tup [.int (i : Nat), x])) { s with heap := h'', toks := tk + 1 } :=
      I.turnedNew (ch := [e, it]) (fun b ob hb q => (sb.2 b (fun z => hb (by simp [z]))).trans (hk b ob (fun z => hb (by simp [z])) (fun z => hb (by simp [z])) q)) hf (Nat.le_refl _) new
    refine ⟨.ref s.heap.objs.size, _, I1, rfl, ⟨_, x, rfl, I.hok.fresh (Nat.le_refl _), rfl, fun ys hy => by rw [I.tuple_inj hy hq]; exact hx⟩, ⟨⟨x', ?_⟩, st'.1.at fun o q => (sb.2 it (Ne.symm hne)).trans q, hne⟩, fun b hb => ?_⟩
    · rw [show ((i + 1 : Nat) : Int) = (i : Int) + 1 by omega]; exact he'
    · have hb' : b < s.heap.objs.size := by
        rcases (show b = e ∨ b = it by simpa using hb) with rfl | rfl
        · exact hel
        · exact hil
      rw [upd_ne (Nat.ne_of_lt hb')]
      exact (hf b hb).1
  done := by
    intro X hP hw hK hc i pins s σ H E I hf ⟨⟨old, he⟩, hit, hne⟩ ⟨xs, hq, hx⟩
    subst hP hw hK
    obtain ⟨its, rv, p, hz⟩ := I.tuple hq
    obtain ⟨f0, f1, f2, f3, f4, f5⟩ := hf it (by simp)
    have hl := rv.length
    have ia : a ≠ it := fun z => by
      obtain ⟨o, ho, hc2, _⟩ := p
      obtain ⟨o2, ho2, hc3, _⟩ := hit
      rw [z, ho2] at ho; cases ho; rw [hc3] at hc2; injection hc2 with hc2; exact absurd hc2 (by decide)
    have ei : i = its.toArray.size := by rw [List.size_toArray]; omega
    rw [ei] at hit
    exact wpAny_pyNext_enum_endD (Draws.tuple (A := X.A.in1) (by simp [I.ok.hd hc]) it a ia its.toArray) he ⟨hit, p⟩ fun h' eb => ⟨rfl, I.turned (t' := s.toks) (fun b o hb q => eb b o hb q) f0 f1 f3 f4 f5⟩
  self := fun A i s Q E ⟨⟨_, he⟩, _⟩ h => wpAny_pyIter_enum he h
def iEnumT (K : PySem.W.Frag) (ta : TA) : TI := fun σ H R => ta σ H fun vs H1 => ∃ a xs, vs = [.ref a] ∧ SqT K H1 a xs ∧ R (ItT K a) H1
theorem pi_enumT {X : Cx} {e : Expr} {ta : TA} {p pos tpos : Pos} {elts : List Expr} {kk : Nat} (hg : Gl X "enumerate") (hm : X.mg "enumerate" = none) (ha : PA X [e] ta) (hs : starEach [e] X.env = [(false, eval e X.env)] := by rfl) :
    PI X (.Tuple elts kk tpos) (.Call (.Name "enumerate" p) [e] [] pos) (iEnumT X.K ta) := by
  refine ⟨fun pins s σ H R I h => ?_⟩
  refine PyProof.Rows.Call_ (ld_blt I hg hm PyProof.Rows.boot_enumerate (PyProof.Rows.callWith_type1 (thn (ha.run pos pins s σ H _ I h) fun us s1 ⟨vs, H1, I1, r1, a, xs, ex, hq, q⟩ => ?_) hs rfl))
  subst ex
  rw [Vals.ref1 r1]
  obtain ⟨its, rv, p', hz⟩ := I1.tuple hq
  refine call_enumT (items := its.toArray) p' fun h' he hit hk => wpAny_pyIter_enum he ?_
  have I2 : L2.Inv X pins σ H1 { s1 with heap := h' } := I1.kept (t' := s1.toks) hk
  refine ⟨s1.heap.objs.size + 1, [s1.heap.objs.size + 1, s1.heap.objs.size], _, _, H1, rfl, I2, turn_enumT a (s1.heap.objs.size + 1) s1.heap.objs.size, ⟨⟨.none, he⟩, hit, Nat.succ_ne_self _⟩, fun b hb => ?_, q⟩
  have hle : s1.heap.objs.size ≤ b := by
    rcases (show b = s1.heap.objs.size + 1 ∨ b = s1.heap.objs.size by simpa using hb) with z | z
    · rw [z]; exact Nat.le_add_right _ _
    · rw [z]; exact Nat.le_refl _
  exact I1.fpOk hle (I1.hok.fresh hle)
end CP
namespace CP
open PySem L2
/-! ### a Graph: its two fields -/
theorem ve : ¬ (("vertices" : Str) = "edges") := by decide +kernel
def gf (a b : Addr) : List (Str × V) := putF "edges" (.ref b) (putF "vertices" (.ref a) [])
theorem gf_eq (a b : Addr) : gf a b = ([("vertices", V.ref a), ("edges", V.ref b)] : List (Str × V)) := by
  show (if ("vertices" : Str) = "edges" then [(("vertices" : Str), V.ref b)] else (("vertices" : Str), V.ref a) :: putF "edges" (V.ref b) []) = _
  rw [if_neg ve]
  all_goals rfl
theorem gf_v (a b : Addr) : (gf a b).lookup ("vertices" : Str) = some (.ref a) := by
  unfold gf; rw [lookup_putF, if_neg ve, lookup_putF, if_pos rfl]
theorem gf_e (a b : Addr) : (gf a b).lookup ("edges" : Str) = some (.ref b) := by
  unfold gf; rw [lookup_putF, if_pos rfl]
/-- at g a Graph of the class C with these names and these edges -/
structure GrAt (C : Addr) (H : Hp) (g : Addr) (ns : List Str) (es : List Ed) : Prop where
  ob : ∃ dx t1 t2, H g = some (.ins C dx (gf t1 t2)) ∧ H t1 = some (.tup (ns.map V.str)) ∧ H t2 = some (.tup (es.map fun p => V.ref p.1))
  ed : ∀ p ∈ es, EdAt H p
theorem GrAt.same {C : Addr} {H H' : Hp} {g : Addr} {ns : List Str} {es : List Ed} (G : GrAt C H g ns es) (s : Same H H') : GrAt C H' g ns es := by
  obtain ⟨⟨dx, t1, t2, a, b, c⟩, e⟩ := G
  exact ⟨⟨dx, t1, t2, s _ _ a, s _ _ b, s _ _ c⟩, fun p hp => s _ _ (e p hp)⟩
structure ArgsOk (H : Hp) (a b : Addr) (ns : List Str) (ks : List Ed) : Prop where
  na : H a = some (.lst (ns.map V.str))
  n0 : 0 < ns.length
  n8 : ns.length ≤ 8
  nd : ns.Nodup
  nm : ∀ z ∈ ns, NameOk z
  ea : H b = some (.lst (ks.map fun p => V.ref p.1))
  ed : ∀ p ∈ ks, EdAt H p
  eo : ∀ p ∈ ks, EdOk ns p.2
  en : (ks.map (·.2)).Nodup
  el : ks.length ≤ 18
def spInit (C : Addr) : Sp := fun vs H Q _ => ∃ (g dx a b : Addr) (ns : List Str) (ks : List Ed), vs = [.ref g, .ref a, .ref b] ∧ H g = some (.ins C dx []) ∧ ArgsOk H a b ns ks ∧
  ∀ H', GrAt C H' g ns (sortE ks) → (∀ c o, c ≠ g → H c = some o → H' c = some o) → Q .non H'
structure GTxt (K : PySem.W.Frag) (mg : Str → Option Value) (C : Addr) : Prop where
  cl : Cls K C
  nV : NoAttr K C "vertices"
  nE : NoAttr K C "edges"
  mg : mg "Graph" = some (.ref C)
section
variable {P : Program} {w : World} {K : PySem.W.Frag} {mg : Str → Option Value} {base : Heap}
theorem scInit : FnScope ["self", "vertices", "edges"] ["self", "vertices", "edges"] (defScope sInit) := ⟨rfl, rfl, rfl, by decide +kernel, rfl, by decide +kernel, by decide +kernel⟩
theorem ok_init {f fV fE C : Addr} {fd fdV fdE : FuncData} (F : Fun K "__init__" "Graph.__init__" sInit f fd) (T : GTxt K mg C) (mt : mg "tuple" = none) (ms : mg "sorted" = none)
    (mV : mg "are_vertices" = some (.ref fV)) (FV : FnOk P w K mg base CX0 2 fV fdV ["value"] spVerts) (kV : PySem.W.keepIn K (.ref fV) = true) (bV : Binds K fdV ["value"] [])
    (mE : mg "are_edges" = some (.ref fE)) (FE : FnOk P w K mg base CX0 3 fE fdE ["vertices", "value"] spEdges) (kE : PySem.W.keepIn K (.ref fE) = true) (bE : Binds K fdE ["vertices", "value"] []) :
    FnOk P w K mg base CX0 4 f fd ["self", "vertices", "edges"] (spInit C) := by
  refine F.ok scInit (fun vs H Q E h => ?_) (fun cdv A outer s H vs Q E hr h => ?_)
  · obtain ⟨g, dx, a, b, ns, ks, rfl, _⟩ := h; rfl
  · obtain ⟨g, dx, a, b, ns, ks, rfl, hg, ⟨na, n0, n8, nd, nm, ea, ed, eo, en, el⟩, k⟩ := h
    have hr2 : Room 2 _ := hr.mono (by decide)
    refine ⟨_, pss_cons (ps_if (pt_not (pt_val (pe_call FV hr2 rfl mV kV bV .nil pass0 (pa_cons (pv 1) pa_nil)))) pss_never pss_nil)
      (pss_cons (ps_if (pt_not (pt_val (pe_call FE hr rfl mE kE bE .nil pass0 (pa_cons (pv 1) (pa_cons (pv 2) pa_nil))))) pss_never pss_nil)
      (pss_cons (ps_fld (pv 0) (pe_callTy call_tuple_of (by rfl) mt (by decide +kernel) (pa_cons (pv 1) pa_nil)) rfl)
      (pss_one (ps_fld (pv 0) (pe_callTy call_tuple_of (by rfl) mt (by decide +kernel) (pa_cons (pe_callB (cr_sortE hr.units) (by rfl) ms (by decide +kernel) (pa_cons (pv 2) pa_nil)) pa_nil)) rfl)))), ?_⟩
    refine ⟨_, rfl, a, ns, rfl, na, n0, n8, nd, nm, fun H1 s1 => ⟨_, rfl, iteF ?_⟩⟩
    refine ⟨_, rfl, _, rfl, a, b, ns, ks, rfl, s1 _ _ na, s1 _ _ ea, fun p hp => s1 _ _ (ed p hp), eo, en, el, fun H2 s2 => ⟨_, rfl, iteF ?_⟩⟩
    have s12 := s1.trans s2
    refine ⟨_, rfl, a, _, rfl, .inl ⟨SqL.of (s12 _ _ na), fun t1 h1 => ?_⟩⟩
    have g2 := s12 _ _ hg
    have gt1 : g ≠ t1 := ne_of_none g2 h1
    refine ⟨_, rfl, g, C, dx, [], rfl, by rw [upd_ne gt1]; exact g2, T.cl, T.nV, by decide, ?_⟩
    have old : ∀ {c : Addr} {o : HO}, c ≠ g → H c = some o → L2.upd (L2.upd H2 t1 (.tup (ns.map V.str))) g (.ins C dx (putF "vertices" (.ref t1) [])) c = some o := fun n e => by
      rw [upd_ne n, upd_ne (ne_of_none (s12 _ _ e) h1)]; exact s12 _ _ e
    have nin : ∀ {c : Addr} {xs : List V}, H c = some (.lst xs) → c ≠ g := fun e => ne_of e hg (fun z => by cases z)
    have nit : ∀ {c : Addr} {xs : List V}, H c = some (.tup xs) → c ≠ g := fun e => ne_of e hg (fun z => by cases z)
    refine ⟨_, rfl, b, ks, rfl, old (nin ea) ea, fun p hp => old (nit (ed p hp)) (ed p hp), by omega, fun l hl => ?_⟩
    refine ⟨l, _, rfl, .inl ⟨SqL.of upd_same, fun t2 h2 => ?_⟩⟩
    have gl : g ≠ l := ne_of_none (upd_same (H := L2.upd H2 t1 (.tup (ns.map V.str))) (a := g)) hl
    have gt2 : g ≠ t2 := ne_of_none (show L2.upd _ l _ g = some _ by rw [upd_ne gl]; exact upd_same) h2
    have lt2 : l ≠ t2 := ne_of_none upd_same h2
    refine ⟨_, rfl, g, C, dx, _, rfl, by rw [upd_ne gt2, upd_ne gl]; exact upd_same, T.cl, T.nE, (by show 1 < 1000; decide), ?_⟩
    have t1a : L2.upd (L2.upd H2 t1 (.tup (ns.map V.str))) g (.ins C dx (putF "vertices" (.ref t1) [])) t1 = some (.tup (ns.map V.str)) := by rw [upd_ne gt1.symm]; exact upd_same
    have t1l : t1 ≠ l := ne_of_none t1a hl
    have t1t2 : t1 ≠ t2 := ne_of_none (show L2.upd _ l _ t1 = some _ by rw [upd_ne t1l]; exact t1a) h2
    have all : ∀ {c : Addr} {o : HO}, c ≠ g → H c = some o → L2.upd (L2.upd (L2.upd (L2.upd (L2.upd H2 t1 (.tup (ns.map V.str))) g (.ins C dx (putF "vertices" (.ref t1) []))) l (.lst ((sortE ks).map fun p => V.ref p.1))) t2 (.tup ((sortE ks).map fun p => V.ref p.1))) g (.ins C dx (putF "edges" (.ref t2) (putF "vertices" (.ref t1) []))) c = some o := fun {c o} n e => by
      have o1 := old n e
      have o2 : L2.upd (L2.upd (L2.upd H2 t1 (.tup (ns.map V.str))) g (.ins C dx (putF "vertices" (.ref t1) []))) l (.lst ((sortE ks).map fun p => V.ref p.1)) c = some o := by rw [upd_ne (ne_of_none o1 hl)]; exact o1
      rw [upd_ne n, upd_ne (ne_of_none o2 h2)]; exact o2
    refine k _ ⟨⟨dx, t1, t2, upd_same, ?_, ?_⟩, fun p hp => all (nit (ed p ((sortE_perm ks).mem_iff.mp hp))) (ed p ((sortE_perm ks).mem_iff.mp hp))⟩ fun c o n e => all n e
    · rw [upd_ne gt1.symm, upd_ne t1t2, upd_ne t1l, upd_ne gt1.symm]; exact upd_same
    · rw [upd_ne gt2.symm]; exact upd_same
end
end CP
namespace CP
open PySem L2
abbrev E2 := Str × Str
/-- no common end -/
def apB (e f : E2) : Bool := decide (e.1 ≠ f.1 ∧ e.1 ≠ f.2 ∧ e.2 ≠ f.1 ∧ e.2 ≠ f.2)
/-- the pairs of the i-th edge and the later ones -/
def rowP (es : List E2) (i : Nat) : List (E2 × E2) := match es[i]? with
  | none => []
  | some e => ((es.drop (i + 1)).filter (apB e)).map fun f => (e, f)
/-- the rows of the first n edges -/
def upTo (r : Nat → List (E2 × E2)) : Nat → List (E2 × E2)
  | 0 => []
  | n + 1 => upTo r n ++ r n
def pairsOf (es : List E2) : List (E2 × E2) := upTo (rowP es) es.length
/-- a pair as a tracked tuple of two tracked edges -/
abbrev Pr := Addr × (Ed × Ed)
structure PrAt (H : Hp) (q : Pr) : Prop where
  ob : H q.1 = some (.tup [.ref q.2.1.1, .ref q.2.2.1])
  one : EdAt H q.2.1
  two : EdAt H q.2.2
theorem PrAt.same {H H' : Hp} {q : Pr} (h : PrAt H q) (s : Same H H') : PrAt H' q := ⟨s _ _ h.ob, s _ _ h.one, s _ _ h.two⟩
def prV (q : Pr) : E2 × E2 := (q.2.1.2, q.2.2.2)
/-- at l a list of pairs worth ps -/
def PrsAt (H : Hp) (l : Addr) (ps : List (E2 × E2)) : Prop := ∃ qs : List Pr, H l = some (.lst (qs.map fun q => V.ref q.1)) ∧ (∀ q ∈ qs, PrAt H q) ∧ qs.map prV = ps
theorem PrsAt.nil {H : Hp} {l : Addr} (h : H l = some (.lst [])) : PrsAt H l [] := ⟨[], h, (fun _ z => nomatch z), rfl⟩
/-- the list at l is the one thing that may have changed -/
theorem PrsAt.kept {H H' : Hp} {l : Addr} {ps : List (E2 × E2)} (h : PrsAt H l ps) (s : Same H H') : PrsAt H' l ps := by
  obtain ⟨qs, a, b, c⟩ := h
  exact ⟨qs, s _ _ a, fun q hq => (b q hq).same s, c⟩
theorem EdAt.keepL {H : Hp} {l : Addr} {xs : List V} {o : HO} {p : Ed} (hl : H l = some (.lst xs)) (h : EdAt H p) : EdAt (L2.upd H l o) p := by
  unfold EdAt; rw [upd_ne (ne_of h hl (fun z => by cases z))]; exact h
theorem PrAt.keepL {H : Hp} {l : Addr} {xs : List V} {o : HO} {q : Pr} (hl : H l = some (.lst xs)) (h : PrAt H q) : PrAt (L2.upd H l o) q :=
  ⟨by rw [upd_ne (ne_of h.ob hl (fun z => by cases z))]; exact h.ob, h.one.keepL hl, h.two.keepL hl⟩
/-- one more pair: its tuple at t is new -/
theorem PrsAt.push {H : Hp} {l t : Addr} {ps : List (E2 × E2)} {p q : Ed} (h : PrsAt H l ps) (ht : H t = some (.tup [.ref p.1, .ref q.1])) (hp : EdAt H p) (hq : EdAt H q) : ∃ qs : List V, H l = some (.lst qs) ∧ qs.length = ps.length ∧ PrsAt (L2.upd H l (.lst (qs ++ [.ref t]))) l (ps ++ [(p.2, q.2)]) := by
  obtain ⟨qs, a, b, c⟩ := h
  refine ⟨_, a, by rw [List.length_map, ← c, List.length_map], qs ++ [(t, p, q)], ?_, fun r hr => ?_, ?_⟩
  · rw [upd_same, List.map_append]; rfl
  · rcases List.mem_append.mp hr with hr | hr
    · exact (b r hr).keepL a
    · rw [List.mem_singleton.mp hr]; exact PrAt.keepL a ⟨ht, hp, hq⟩
  · rw [List.map_append, c]; rfl
theorem cut_drop (xs : List V) (i : Nat) : cutV xs (some ((i : Int) + 1)) none = xs.drop (i + 1) := by
  have e : ((i : Int) + 1) = ((i + 1 : Nat) : Int) := by omega
  unfold cutV
  rw [e, HT.sIx_nat, HT.sIx_none]
  by_cases c : i + 1 ≤ xs.length
  · rw [Nat.min_eq_left c, List.take_of_length_le (by rw [List.length_drop]; exact Nat.le_refl _)]
  · rw [Nat.min_eq_right (by omega), List.drop_of_length_le (by omega : xs.length ≤ i + 1), List.drop_length]; simp
theorem row_len (es : List E2) (i : Nat) : (rowP es i).length ≤ es.length := by
  unfold rowP
  cases es[i]? with
  | none => exact Nat.zero_le _
  | some e =>
    show (((es.drop (i + 1)).filter (apB e)).map fun f => (e, f)).length ≤ _
    rw [List.length_map]
    exact Nat.le_trans (List.length_filter_le _ _) (by rw [List.length_drop]; omega)
theorem upTo_len {r : Nat → List (E2 × E2)} {m : Nat} (h : ∀ i, (r i).length ≤ m) : ∀ n, (upTo r n).length ≤ n * m
  | 0 => Nat.zero_le _
  | n + 1 => by
    show (upTo r n ++ r n).length ≤ _
    rw [List.length_append, Nat.succ_mul]
    exact Nat.add_le_add (upTo_len h n) (h n)
end CP
namespace CP
open PySem L2
theorem perm_map {α β : Type} {f : α → β} {l m : List β} (h : l.Perm m) : ∀ ks : List α, m = ks.map f → ∃ js : List α, js.Perm ks ∧ js.map f = l := by
  induction h with
  | nil => intro ks e; cases ks with | nil => exact ⟨[], .refl _, rfl⟩ | cons _ _ => cases e
  | @cons x l1 l2 _ ih =>
    intro ks e
    cases ks with
    | nil => cases e
    | cons k ks =>
      injection e with e1 e2
      obtain ⟨js, p, q⟩ := ih ks e2
      exact ⟨k :: js, p.cons k, by rw [List.map_cons, q, e1]⟩
  | swap x y l =>
    intro ks e
    match ks, e with
    | a :: b :: ks, e =>
      injection e with e1 e2; injection e2 with e2 e3
      exact ⟨b :: a :: ks, List.Perm.swap _ _ _, by rw [List.map_cons, List.map_cons, e1, e2, e3]⟩
    | [a], e => simp at e
    | [], e => simp at e
  | trans _ _ ih1 ih2 =>
    intro ks e
    obtain ⟨js, p, q⟩ := ih2 ks e
    obtain ⟨is, p2, q2⟩ := ih1 js q.symm
    exact ⟨is, p2.trans p, q2⟩
def base8 : List Str := ["a", "ab", "b", "x", "zzzzzzzz", "node", "k", "c"]
theorem base8_nd : base8.Nodup := by decide +kernel
instance (z : Str) : Decidable (NameOk z) := decidable_of_iff (0 < z.length ∧ z.length ≤ 8 ∧ ∀ c ∈ z.cps.toList, c ∈ letters.cps.toList) ⟨fun ⟨a, b, c⟩ => ⟨a, b, c⟩, fun ⟨a, b, c⟩ => ⟨a, b, c⟩⟩
theorem base8_ok : ∀ z ∈ base8, NameOk z := by decide +kernel
theorem letters_small : ∀ c ∈ letters.cps.toList, c < 0x110000 := by decide +kernel
theorem NameOk.strOk {z : Str} (h : NameOk z) : PyData.strOk z = true := by
  unfold PyData.strOk
  rw [← Array.all_toList, List.all_eq_true]
  intro c hc
  simpa using letters_small c (h.all c hc)
/-- the edges of one name -/
def rowE (ns : List Str) (i : Nat) : List E2 := match ns[i]? with
  | none => []
  | some n => (ns.filter (ltS n)).map fun m => (n, m)
def upE (r : Nat → List E2) : Nat → List E2
  | 0 => []
  | n + 1 => upE r n ++ r n
theorem rowE_mem {ns : List Str} {i : Nat} {e : E2} (h : e ∈ rowE ns i) : ns[i]? = some e.1 ∧ e.2 ∈ ns ∧ ltS e.1 e.2 = true := by
  unfold rowE at h
  cases q : ns[i]? with
  | none => rw [q] at h; cases h
  | some n =>
    rw [q] at h
    obtain ⟨m, hm, rfl⟩ := List.mem_map.mp h
    exact ⟨rfl, (List.mem_filter.mp hm).1, (List.mem_filter.mp hm).2⟩
theorem upE_mem {ns : List Str} : ∀ {n : Nat} {e : E2}, e ∈ upE (rowE ns) n → ∃ i, i < n ∧ e ∈ rowE ns i
  | 0, e, h => nomatch h
  | n + 1, e, h => by
    rcases List.mem_append.mp h with h | h
    · obtain ⟨i, a, b⟩ := upE_mem h; exact ⟨i, by omega, b⟩
    · exact ⟨n, by omega, h⟩
theorem upE_ok {ns : List Str} {n : Nat} {e : E2} (h : e ∈ upE (rowE ns) n) : EdOk ns e := by
  obtain ⟨i, _, h⟩ := upE_mem h
  obtain ⟨a, b, c⟩ := rowE_mem h
  exact ⟨List.mem_of_getElem? a, b, c⟩
theorem nodup_ne {α : Type} {l : List α} (nd : l.Nodup) {i j : Nat} {x : α} (hi : l[i]? = some x) (hj : l[j]? = some x) : i = j := by
  obtain ⟨a, e1⟩ := List.getElem?_eq_some_iff.mp hi
  obtain ⟨b, e2⟩ := List.getElem?_eq_some_iff.mp hj
  rcases Nat.lt_trichotomy i j with c | c | c
  · exact absurd (e1.trans e2.symm) ((List.pairwise_iff_getElem.mp nd) i j a b c)
  · exact c
  · exact absurd (e2.trans e1.symm) ((List.pairwise_iff_getElem.mp nd) j i b a c)
theorem rowE_nd {ns : List Str} (nd : ns.Nodup) (i : Nat) : (rowE ns i).Nodup := by
  unfold rowE
  cases ns[i]? with
  | none => exact List.nodup_nil
  | some n => exact List.Pairwise.map _ (fun x y h e => h (by injection e)) (nd.filter _)
theorem upE_nd {ns : List Str} (nd : ns.Nodup) : ∀ n, (upE (rowE ns) n).Nodup
  | 0 => List.nodup_nil
  | n + 1 => by
    refine List.nodup_append.mpr ⟨upE_nd nd n, rowE_nd nd n, fun x hx y hy e => ?_⟩
    subst e
    obtain ⟨i, hi, h⟩ := upE_mem hx
    have := nodup_ne nd (rowE_mem h).1 (rowE_mem hy).1
    omega
theorem rowE_len (ns : List Str) (i : Nat) : (rowE ns i).length ≤ ns.length := by
  unfold rowE
  cases ns[i]? with
  | none => exact Nat.zero_le _
  | some n => show ((ns.filter (ltS n)).map _).length ≤ _; rw [List.length_map]; exact List.length_filter_le _ _
theorem upE_len {r : Nat → List E2} {m : Nat} (h : ∀ i, (r i).length ≤ m) : ∀ n, (upE r n).length ≤ n * m
  | 0 => Nat.zero_le _
  | n + 1 => by
    show (upE r n ++ r n).length ≤ _
    rw [List.length_append, Nat.succ_mul]
    exact Nat.add_le_add (upE_len h n) (h n)
/-- at l a list of edges worth es -/
def EdsAt (H : Hp) (l : Addr) (es : List E2) : Prop := ∃ ks : List Ed, H l = some (.lst (ks.map fun p => V.ref p.1)) ∧ (∀ p ∈ ks, EdAt H p) ∧ ks.map (·.2) = es
theorem EdsAt.kept {H H' : Hp} {l : Addr} {es : List E2} (h : EdsAt H l es) (s : Same H H') : EdsAt H' l es := by
  obtain ⟨ks, a, b, c⟩ := h
  exact ⟨ks, s _ _ a, fun p hp => s _ _ (b p hp), c⟩
theorem EdsAt.push {H : Hp} {l t : Addr} {es : List E2} {u v : Str} (h : EdsAt H l es) (ht : H t = some (.tup [.str u, .str v])) : ∃ zs : List V, H l = some (.lst zs) ∧ zs.length = es.length ∧ EdsAt (L2.upd H l (.lst (zs ++ [.ref t]))) l (es ++ [(u, v)]) := by
  obtain ⟨ks, a, b, c⟩ := h
  refine ⟨_, a, by rw [List.length_map, ← c, List.length_map], ks ++ [(t, u, v)], ?_, fun p hp => ?_, ?_⟩
  · rw [upd_same, List.map_append]; rfl
  · rcases List.mem_append.mp hp with hp | hp
    · exact (b p hp).keepL a
    · rw [List.mem_singleton.mp hp]; exact EdAt.keepL a ht
  · rw [List.map_append, c]; rfl
/-- l.extend(m) -/
theorem EdsAt.ext {H : Hp} {l m : Addr} {es fs : List E2} (h : EdsAt H l es) (hm : EdsAt H m fs) : ∃ zs ys : List V, H l = some (.lst zs) ∧ H m = some (.lst ys) ∧ zs.length = es.length ∧ ys.length = fs.length ∧ EdsAt (L2.upd H l (.lst (zs ++ ys))) l (es ++ fs) := by
  obtain ⟨ks, a, b, c⟩ := h
  obtain ⟨js, a2, b2, c2⟩ := hm
  refine ⟨_, _, a, a2, by rw [List.length_map, ← c, List.length_map], by rw [List.length_map, ← c2, List.length_map], ks ++ js, ?_, fun p hp => ?_, ?_⟩
  · rw [upd_same, List.map_append]
  · rcases List.mem_append.mp hp with hp | hp
    · exact (b p hp).keepL a
    · exact (b2 p hp).keepL a
  · rw [List.map_append, c, c2]
end CP
namespace CP
open PySem L2
def spGraph : Sp := fun vs H Q _ => ∃ a : Addr, vs = [.ref a, .int 8] ∧ Src H a ∧
  ∀ p n e ns ks H', H' p = some (.tup [.ref n, .ref e]) → ArgsOk H' n e ns ks → (∀ z ∈ ns, z ∈ base8) → H n = none → H e = none → Src H' a → But a H H' → Q (.ref p) H'
theorem cut_take (xs : List V) (m : Int) (h : 0 ≤ m) : cutV xs none (some m) = xs.take m.toNat := by
  obtain ⟨k, rfl⟩ : ∃ k : Nat, m = k := ⟨m.toNat, by omega⟩
  unfold cutV
  rw [HT.sIx_nat, HT.sIx_none, List.drop_zero, Nat.sub_zero, Int.toNat_natCast]
  by_cases c : k ≤ xs.length
  · rw [Nat.min_eq_left c]
  · rw [Nat.min_eq_right (by omega), List.take_length, List.take_of_length_le (by omega)]
theorem But.none {a b : Addr} {H H' : Hp} (B : But a H H') (n : b ≠ a) (h : H' b = none) : H b = none := by
  cases e : H b with
  | none => rfl
  | some o => rw [B b o n e] at h; cases h
theorem Src.but {a : Addr} {H H' : Hp} (S : Src H a) (s : Same H H') : Src H' a := by
  obtain ⟨x, y, z, e⟩ := S; exact ⟨x, y, z, s _ _ e⟩
theorem Src.ne {a b : Addr} {H : Hp} (S : Src H a) (h : H b = none) : b ≠ a := fun e => by
  obtain ⟨x, y, z, q⟩ := S
  rw [e, q] at h; cases h
theorem EdAt.but {a : Addr} {H H' : Hp} {p : Ed} (S : Src H a) (B : But a H H') (h : EdAt H p) : EdAt H' p := by
  obtain ⟨x, y, z, e⟩ := S
  exact B _ _ (ne_of h e (fun z => by cases z)) h
section
variable {P : Program} {w : World} {K : PySem.W.Frag} {mg : Str → Option Value} {base : Heap}
theorem scGraph : FnScope ["_law_source", "_law_most", "_law_names", "_law_edges", "_law_name", "_law_limit", "_law_end"] ["_law_source", "_law_most"] (defScope sGraph) := ⟨rfl, rfl, rfl, by decide +kernel, rfl, by decide +kernel, by decide +kernel⟩
theorem ok_graph {f fN fM fO : Addr} {fd fdN fdM fdO : FuncData} (F : Fun K "_law_graph" "_law_graph" sGraph f fd) (ml : mg "len" = none) (mmin : mg "min" = none)
    (mN : mg "_law_next" = some (.ref fN)) (GN : FnOk P w K mg base CX0 1 fN fdN ["_law_source", "_law_many"] spNext) (kN : PySem.W.keepIn K (.ref fN) = true) (bN : Binds K fdN ["_law_source", "_law_many"] [])
    (mM : mg "_law_mixed" = some (.ref fM)) (GM : FnOk P w K mg base CX0 2 fM fdM ["_law_source", "_law_some"] (spMixed K)) (kM : PySem.W.keepIn K (.ref fM) = true) (bM : Binds K fdM ["_law_source", "_law_some"] [])
    (mO : mg "_law_one" = some (.ref fO)) (GO : FnOk P w K mg base CX0 2 fO fdO ["_law_source", "_law_some"] (spOne K)) (kO : PySem.W.keepIn K (.ref fO) = true) (bO : Binds K fdO ["_law_source", "_law_some"] []) :
    FnOk P w K mg base CX0 3 f fd ["_law_source", "_law_most"] spGraph := by
  refine F.ok scGraph (fun vs H Q E h => ?_) (fun cdv A outer s H vs Q E hr h => ?_)
  · obtain ⟨a, rfl, _⟩ := h; rfl
  · obtain ⟨a, rfl, S0, k⟩ := h
    have hr1 : Room 1 _ := hr.mono (by decide)
    refine ⟨_, pss_cons (ps_set (i := 2) scGraph.nd rfl (Or.inl rfl) (pe_slice sl_list (pe_call GM hr rfl mM kM bM .nil pass0 (pa_cons (pv 0) (pa_cons (pe_lst (pa_cons pe_str (pa_cons pe_str (pa_cons pe_str (pa_cons pe_str (pa_cons pe_str (pa_cons pe_str (pa_cons pe_str (pa_cons pe_str pa_nil))))))))) pa_nil)))
        po_none (po_some (pe_op op_add pe_int (pe_call GN hr1 rfl mN kN bN .nil pass0 (pa_cons (pv 0) (pa_cons (pv 1) pa_nil)))))))
      (pss_cons (ps_set (i := 3) scGraph.nd rfl (Or.inl rfl) (pe_lst pa_nil))
      (pss_cons (ps_for PassesOwn.never rfl (pi_list (pv 2)) (pg_name (i := 4) scGraph.nd rfl (Or.inr rfl))
        (pss_one (ps_expr (pe_bm PySem.F.plainAttrs_list PySem.F.slot_list_extend PySem.F.type_list_extend mt_extend (pv 3) (pa_cons (pe_lc (own := [("_law_end", 6)]) (g := gName 6) rfl scGraph.nd (pi_list (pv 2))
          (blkOk_by (own := [("_law_end", 6)]) (N := ["_law_source", "_law_most", "_law_names", "_law_edges", "_law_name", "_law_limit", "_law_end"]) (sc := defScope sGraph) (by decide +kernel))
          (fun _ _ _ _ _ => pg_name (i := 6) scGraph.nd rfl (Or.inl rfl)) (fun _ _ _ _ _ => pts_one (pt_cmpR op_lt_str (pv 4) (pv 6) (nomark _))) (fun _ _ _ _ _ => pe_tup (pa_cons (pv 4) (pa_cons (pv 6) pa_nil)))) pa_nil)))))
      (pss_cons (ps_set (i := 3) scGraph.nd rfl (Or.inl rfl) (pe_call GM hr rfl mM kM bM .nil pass0 (pa_cons (pv 0) (pa_cons (pv 3) pa_nil))))
      (pss_cons (ps_set (i := 5) scGraph.nd rfl (Or.inl rfl) (pe_call GO hr rfl mO kO bO .nil pass0 (pa_cons (pv 0) (pa_cons (pe_lst (pa_cons (pe_callB call_len_seq (by rfl) ml PySem.boot_len (pa_cons (pv 3) pa_nil)) (pa_cons (pe_op op_add (pe_callB call_len_seq (by rfl) ml PySem.boot_len (pa_cons (pv 2) pa_nil)) pe_int)
        (pa_cons (pe_op op_mul pe_int (pe_callB call_len_seq (by rfl) ml PySem.boot_len (pa_cons (pv 2) pa_nil))) (pa_cons (pe_call GN hr1 rfl mN kN bN .nil pass0 (pa_cons (pv 0) (pa_cons (pe_op op_add (pe_callB call_len_seq (by rfl) ml PySem.boot_len (pa_cons (pv 3) pa_nil)) pe_int) pa_nil))) pa_nil))))) pa_nil))))
      (pss_one (ps_ret (pe_tup (pa_cons (pv 2) (pa_cons (pe_slice sl_list (pv 3) po_none (po_some (pe_callB (call_min2 rfl) (by rfl) mmin (by decide +kernel) (pa_cons (pv 5) (pa_cons pe_int pa_nil))))) pa_nil))))))))), ?_⟩
    refine ⟨_, rfl, by show 8 ≤ sizeLine; decide, fun b hb => ?_⟩
    have ba := S0.ne hb
    have s1 : Same H (L2.upd H b (.lst (base8.map V.str))) := Same.new hb
    refine ⟨a, b, base8.map V.str, rfl, S0.but s1, ba.symm, upd_same, fun x hx => ?_, by decide, fun p ys H1 pm hp0 hp1 S1 B1 => ?_⟩
    · obtain ⟨z, hz, rfl⟩ := List.mem_map.mp hx
      exact .inl ⟨z, rfl, (base8_ok z hz).strOk⟩
    obtain ⟨bs, pb, rfl⟩ := perm_map pm base8 rfl
    have B01 : But a H H1 := (But.of_same s1).trans B1
    have pa : p ≠ a := (S0.but s1).ne hp0
    refine ⟨_, rfl, _, rfl, a, 8, rfl, S1, by decide, by decide, fun r H2 r0 r1 S2 B2 => ⟨_, _, rfl, rfl, _, rfl, p, _, rfl, SqL.of (B2 p _ pa hp1), fun n hn => ?_⟩⟩
    have e1 : cutV (bs.map V.str) none (some (1 + r)) = (bs.take (1 + r).toNat).map V.str := by rw [cut_take _ _ (by omega), List.map_take]
    rw [e1]
    generalize hns : bs.take (1 + r).toNat = ns
    have len8 : bs.length = 8 := by rw [pb.length_eq]; rfl
    have nsl : ns.length = (1 + r).toNat := by rw [← hns, List.length_take, len8]; omega
    have n0 : 0 < ns.length := by omega
    have n8 : ns.length ≤ 8 := by omega
    have nsub : ∀ z ∈ ns, z ∈ base8 := fun z hz => pb.mem_iff.mp (List.mem_of_mem_take (hns ▸ hz))
    have nnd : ns.Nodup := by rw [← hns]; exact ((pb.nodup_iff).mpr base8_nd).sublist (List.take_sublist _ _)
    have nok : ∀ z ∈ ns, NameOk z := fun z hz => base8_ok z (nsub z hz)
    have na := S2.ne hn
    have B02 := B01.trans B2
    have n00 : H n = none := B02.none na hn
    refine ⟨by show 0 ≤ sizeLine; decide, fun e he => ?_⟩
    generalize hH3 : L2.upd H2 n (.lst (ns.map V.str)) = H3 at he ⊢
    have s23 : Same H2 H3 := by rw [← hH3]; exact Same.new hn
    have n3 : H3 n = some (.lst (ns.map V.str)) := by rw [← hH3]; exact upd_same
    have S3 := S2.but s23
    have ea := S3.ne he
    have B03 : But a H H3 := B02.trans (But.of_same s23)
    have e00 : H e = none := B03.none ea he
    refine ⟨_, rfl, n, rfl, ⟨_, SqL.of (Same.new he _ _ n3)⟩, for_list (K := K) (a := n) (xs := ns.map V.str) (fun i σ H' => ∃ v4, σ = [some (.ref a), some (.int 8), some (.ref n), some (.ref e), v4, none, none] ∧ Same H3 H' ∧ EdsAt H' e (upE (rowE ns) i))
      ⟨_, rfl, Same.new he, [], upd_same, (fun _ z => nomatch z), rfl⟩ (fun i σ H' _ ⟨_, _, s, _⟩ => SqL.of (s _ _ n3)) ?_ ?_⟩
    · rintro i x σ H4 hi ⟨v4, rfl, s4, R4⟩
      have li : i < ns.length := by have := (List.getElem?_eq_some_iff.mp hi).1; rw [List.length_map] at this; exact this
      rw [List.getElem?_map, List.getElem?_eq_getElem li] at hi
      obtain rfl : V.str ns[i] = x := Option.some.inj hi
      obtain ⟨_, r1, _⟩ := id R4
      refine ⟨_, rfl, .inl ⟨rfl, _, SqL.of r1⟩, _, rfl, n, rfl, ⟨_, SqL.of (s4 _ _ n3)⟩, fun D hD => lc_list (K := K) (a := n) (xs := ns.map V.str) (fun j H' => Same H4 H' ∧ EdsAt H' D (((ns.take j).filter (ltS ns[i])).map fun m => (ns[i], m)))
        ⟨Same.new hD, [], upd_same, (fun _ z => nomatch z), rfl⟩ (fun j H' _ ⟨s, _⟩ => SqL.of (s _ _ (s4 _ _ n3))) ?_ ?_⟩
      · rintro j y H5 hj ⟨s5, R5⟩
        have lj : j < ns.length := by have := (List.getElem?_eq_some_iff.mp hj).1; rw [List.length_map] at this; exact this
        rw [List.getElem?_map, List.getElem?_eq_getElem lj] at hj
        obtain rfl : V.str ns[j] = y := Option.some.inj hj
        have tk : ns.take (j + 1) = ns.take j ++ [ns[j]] := take_one (List.getElem?_eq_getElem lj)
        refine ⟨rfl, _, rfl, _, rfl, _, _, rfl, rfl, _, rfl, ?_⟩
        show if ltS ns[i] ns[j] = true then _ else _
        by_cases c : ltS ns[i] ns[j] = true
        · rw [c]
          refine iteT ⟨_, rfl, _, rfl, by show 2 ≤ sizeLine; decide, fun t ht => ?_⟩
          have s6 : Same H5 (L2.upd H5 t (.tup [.str ns[i], .str ns[j]])) := Same.new ht
          obtain ⟨zs, z1, z2, z3⟩ := (R5.kept s6).push (t := t) upd_same
          refine ⟨zs, z1, ?_, Same.grow hD (s5.trans s6), ?_⟩
          · rw [z2, List.length_map, sizeLine_eq]
            have := List.length_filter_le (ltS ns[i]) (ns.take j)
            rw [List.length_take] at this; omega
          · rw [tk, List.filter_append, List.map_append]
            have q : [ns[j]].filter (ltS ns[i]) = [ns[j]] := by simp [c]
            rw [q]; exact z3
        · have c' : ltS ns[i] ns[j] = false := by simpa using c
          rw [c']
          refine iteF ⟨s5, ?_⟩
          rw [tk, List.filter_append]
          have q : [ns[j]].filter (ltS ns[i]) = [] := by simp [c']
          rw [q, List.append_nil]; exact R5
      · rintro H5 ⟨s5, R5⟩
        rw [List.length_map, List.take_length] at R5
        have er : rowE ns i = (ns.filter (ltS ns[i])).map fun m => (ns[i], m) := by
          unfold rowE; rw [List.getElem?_eq_getElem li]
        rw [← er] at R5
        obtain ⟨zs, ys, z1, z2, z3, z4, z5⟩ := (R4.kept s5).ext R5
        refine ⟨e, D, zs, ys, rfl, rfl, z1, z2, ?_, ?_⟩
        · rw [z3, z4, sizeLine_eq]
          have q1 := upE_len (m := ns.length) (rowE_len ns) i
          have q2 := rowE_len ns i
          have q3 : i * ns.length ≤ 8 * 8 := Nat.mul_le_mul (by omega) n8
          omega
        · exact ⟨_, rfl, Same.grow he (s4.trans s5), z5⟩
    · rintro σ H4 ⟨v4, rfl, s4, ks, k1, k2, k3⟩
      rw [List.length_map] at k3
      have S4 := S3.but s4
      have klen : ks.length ≤ 64 := by
        have q1 := upE_len (m := ns.length) (rowE_len ns) ns.length
        have q3 : ns.length * ns.length ≤ 8 * 8 := Nat.mul_le_mul n8 n8
        have q4 := congrArg List.length k3
        rw [List.length_map] at q4; omega
      have kok : ∀ p ∈ ks, EdOk ns p.2 := fun p hp => upE_ok (n := ns.length) (by rw [← k3]; exact List.mem_map.mpr ⟨p, hp, rfl⟩)
      refine ⟨_, rfl, _, rfl, a, e, _, rfl, S4, ea.symm, k1, fun x hx => ?_, by rw [List.length_map]; omega, fun p2 ys H5 pm2 hp20 hp21 S5 B5 => ?_⟩
      · obtain ⟨p, hp, rfl⟩ := List.mem_map.mp hx
        obtain ⟨o1, o2, _⟩ := kok p hp
        exact .inr ⟨p.1, p.2.1, p.2.2, rfl, k2 p hp, (nok _ o1).strOk, (nok _ o2).strOk⟩
      obtain ⟨js, pj, rfl⟩ := perm_map pm2 ks rfl
      have p2a := S4.ne hp20
      have n4 := s4 _ _ n3
      have n5 := B5 n _ na n4
      have j5 : ∀ p ∈ js, EdAt H5 p := fun p hp => EdAt.but S4 B5 (k2 p (pj.mem_iff.mp hp))
      have jlen : js.length ≤ 64 := by rw [pj.length_eq]; exact klen
      refine ⟨_, rfl, _, rfl, p2, _, rfl, .inl (SqL.of hp21), _, rfl, n, _, rfl, .inl (SqL.of n5), _, _, rfl, rfl, _, rfl, n, _, rfl, .inl (SqL.of n5), _, _, rfl, rfl, .inl ⟨by decide, by decide⟩, _, rfl, _, rfl, p2, _, rfl, .inl (SqL.of hp21), _, _, rfl, rfl, a, _, rfl, S5, by omega, by rw [List.length_map]; omega, fun r2 H6 r20 r21 S6 B6 => ?_⟩
      refine ⟨by show 4 ≤ sizeLine; decide, fun q hq => ?_⟩
      have qa := S6.ne hq
      have s67 : Same H6 (L2.upd H6 q (.lst [.int (js.map fun p => V.ref p.1).length, .int ((ns.map V.str).length + 1), .int (2 * (ns.map V.str).length), .int r2])) := Same.new hq
      refine ⟨a, q, _, rfl, S6.but s67, qa.symm, SqL.of upd_same, upd_same, by show 0 < 4; decide, by show 4 < 100000; decide, fun x H7 hx S7 B7 => ?_⟩
      obtain ⟨m, m0, rfl⟩ : ∃ m : Int, 0 ≤ m ∧ x = .int m := by
        simp only [List.mem_cons, List.not_mem_nil, or_false] at hx
        rcases hx with rfl | rfl | rfl | rfl
        · exact ⟨_, by omega, rfl⟩
        · exact ⟨_, by omega, rfl⟩
        · exact ⟨_, by omega, rfl⟩
        · exact ⟨_, r20, rfl⟩
      have B57 : But a H5 H7 := (B6.trans (But.of_same s67)).trans B7
      have p7 := B57 p2 _ p2a hp21
      have n7 := B57 n _ na n5
      refine ⟨_, rfl, _, rfl, _, rfl, _, _, rfl, _, rfl, p2, _, rfl, SqL.of p7, fun e2 he2 => ?_⟩
      have e2a := S7.ne he2
      generalize hm : (if (14 : Int) < m then 14 else m) = m2
      have m20 : 0 ≤ m2 := by rw [← hm]; split <;> omega
      have m18 : m2 ≤ 14 := by rw [← hm]; split <;> omega
      rw [cut_take _ _ m20, ← List.map_take]
      refine ⟨by show 2 ≤ sizeLine; decide, fun t ht => ?_⟩
      have B07 : But a H H7 := (((B03.trans (But.of_same s4)).trans B5).trans B57)
      have s78 : Same H7 (L2.upd H7 e2 (.lst ((js.take m2.toNat).map fun p => V.ref p.1))) := Same.new he2
      have s79 : Same H7 (L2.upd (L2.upd H7 e2 (.lst ((js.take m2.toNat).map fun p => V.ref p.1))) t (.tup [.ref n, .ref e2])) := s78.trans (Same.new ht)
      have jsub : ∀ p ∈ js.take m2.toNat, p ∈ js := fun p hp => List.mem_of_mem_take hp
      refine k t n e2 ns (js.take m2.toNat) _ upd_same ⟨s79 _ _ n7, n0, n8, nnd, nok, ?_, fun p hp => s79 _ _ (EdAt.but S5 B57 (j5 p (jsub p hp))), fun p hp => kok p (pj.mem_iff.mp (jsub p hp)), ?_, ?_⟩ nsub n00 (B07.none e2a he2) (S7.but s79) (B07.trans (But.of_same s79))
      · rw [upd_ne (ne_of_none (upd_same (H := H7) (a := e2)) ht)]; exact upd_same
      · have nd1 : (js.map (·.2)).Nodup := (pj.map (·.2)).nodup_iff.mpr (by rw [k3]; exact upE_nd nnd _)
        rw [List.map_take]; exact nd1.sublist (List.take_sublist _ _)
      · rw [List.length_take]; omega
end
end CP
namespace CP
open PySem L2
abbrev sFull : Stmt := top 35
def spFull : Sp := fun vs H Q _ => ∃ a : Addr, vs = [.ref a] ∧ Src H a ∧
  ∀ p n e ns ks H', H' p = some (.tup [.ref n, .ref e]) → ArgsOk H' n e ns ks → (∀ z ∈ ns, z ∈ base8) → H n = none → H e = none → Src H' a → But a H H' → Q (.ref p) H'
section
variable {P : Program} {w : World} {K : PySem.W.Frag} {mg : Str → Option Value} {base : Heap}
theorem scFull : FnScope ["_law_source", "_law_names", "_law_edges", "_law_name", "_law_end"] ["_law_source"] (defScope sFull) := ⟨rfl, rfl, rfl, by decide +kernel, rfl, by decide +kernel, by decide +kernel⟩
theorem ok_full {f fM : Addr} {fd fdM : FuncData} (F : Fun K "_law_full" "_law_full" sFull f fd)
    (mM : mg "_law_mixed" = some (.ref fM)) (GM : FnOk P w K mg base CX0 2 fM fdM ["_law_source", "_law_some"] (spMixed K)) (kM : PySem.W.keepIn K (.ref fM) = true) (bM : Binds K fdM ["_law_source", "_law_some"] []) :
    FnOk P w K mg base CX0 3 f fd ["_law_source"] spFull := by
  refine F.ok scFull (fun vs H Q E h => ?_) (fun cdv A outer s H vs Q E hr h => ?_)
  · obtain ⟨a, rfl, _⟩ := h; rfl
  · obtain ⟨a, rfl, S0, k⟩ := h
    refine ⟨_, pss_cons (ps_set (i := 1) scFull.nd rfl (Or.inl rfl) (pe_call GM hr rfl mM kM bM .nil pass0 (pa_cons (pv 0) (pa_cons (pe_lst (pa_cons pe_str (pa_cons pe_str (pa_cons pe_str (pa_cons pe_str (pa_cons pe_str (pa_cons pe_str (pa_cons pe_str (pa_cons pe_str pa_nil))))))))) pa_nil))))
      (pss_cons (ps_set (i := 2) scFull.nd rfl (Or.inl rfl) (pe_lst pa_nil))
      (pss_cons (ps_for PassesOwn.never rfl (pi_list (pv 1)) (pg_name (i := 3) scFull.nd rfl (Or.inr rfl))
        (pss_one (ps_expr (pe_bm PySem.F.plainAttrs_list PySem.F.slot_list_extend PySem.F.type_list_extend mt_extend (pv 2) (pa_cons (pe_lc (own := [("_law_end", 4)]) (g := gName 4) rfl scFull.nd (pi_list (pv 1))
          (blkOk_by (own := [("_law_end", 4)]) (N := ["_law_source", "_law_names", "_law_edges", "_law_name", "_law_end"]) (sc := defScope sFull) (by decide +kernel))
          (fun _ _ _ _ _ => pg_name (i := 4) scFull.nd rfl (Or.inl rfl)) (fun _ _ _ _ _ => pts_one (pt_cmpR op_lt_str (pv 3) (pv 4) (nomark _))) (fun _ _ _ _ _ => pe_tup (pa_cons (pv 3) (pa_cons (pv 4) pa_nil)))) pa_nil)))))
      (pss_one (ps_ret (pe_tup (pa_cons (pv 1) (pa_cons (pe_slice sl_list (pe_call GM hr rfl mM kM bM .nil pass0 (pa_cons (pv 0) (pa_cons (pv 2) pa_nil))) po_none (po_some pe_int)) pa_nil))))))), ?_⟩
    refine ⟨_, rfl, by show 8 ≤ sizeLine; decide, fun b hb => ?_⟩
    have ba := S0.ne hb
    have s1 : Same H (L2.upd H b (.lst (base8.map V.str))) := Same.new hb
    refine ⟨a, b, base8.map V.str, rfl, S0.but s1, ba.symm, upd_same, fun x hx => ?_, by decide, fun n ys H2 pm hn n2 S2 B1 => ?_⟩
    · obtain ⟨z, hz, rfl⟩ := List.mem_map.mp hx
      exact .inl ⟨z, rfl, (base8_ok z hz).strOk⟩
    obtain ⟨ns, pb, rfl⟩ := perm_map pm base8 rfl
    have B02 : But a H H2 := (But.of_same s1).trans B1
    have na : n ≠ a := (S0.but s1).ne hn
    have n00 : H n = none := s1.free hn
    have nsl : ns.length = 8 := by rw [pb.length_eq]; rfl
    have n0 : 0 < ns.length := by omega
    have n8 : ns.length ≤ 8 := by omega
    have nnd : ns.Nodup := (pb.nodup_iff).mpr base8_nd
    have nok : ∀ z ∈ ns, NameOk z := fun z hz => base8_ok z (pb.mem_iff.mp hz)
    refine ⟨by show 0 ≤ sizeLine; decide, fun e he => ?_⟩
    have ea := S2.ne he
    have e00 : H e = none := B02.none ea he
    refine ⟨_, rfl, n, rfl, ⟨_, SqL.of (Same.new he _ _ n2)⟩, for_list (K := K) (a := n) (xs := ns.map V.str) (fun i σ H' => ∃ v4, σ = [some (.ref a), some (.ref n), some (.ref e), v4, none] ∧ Same H2 H' ∧ EdsAt H' e (upE (rowE ns) i))
      ⟨_, rfl, Same.new he, [], upd_same, (fun _ z => nomatch z), rfl⟩ (fun i σ H' _ ⟨_, _, s, _⟩ => SqL.of (s _ _ n2)) ?_ ?_⟩
    · rintro i x σ H4 hi ⟨v4, rfl, s4, R4⟩
      have li : i < ns.length := by have := (List.getElem?_eq_some_iff.mp hi).1; rw [List.length_map] at this; exact this
      rw [List.getElem?_map, List.getElem?_eq_getElem li] at hi
      obtain rfl : V.str ns[i] = x := Option.some.inj hi
      obtain ⟨_, r1, _⟩ := id R4
      refine ⟨_, rfl, .inl ⟨rfl, _, SqL.of r1⟩, _, rfl, n, rfl, ⟨_, SqL.of (s4 _ _ n2)⟩, fun D hD => lc_list (K := K) (a := n) (xs := ns.map V.str) (fun j H' => Same H4 H' ∧ EdsAt H' D (((ns.take j).filter (ltS ns[i])).map fun m => (ns[i], m)))
        ⟨Same.new hD, [], upd_same, (fun _ z => nomatch z), rfl⟩ (fun j H' _ ⟨s, _⟩ => SqL.of (s _ _ (s4 _ _ n2))) ?_ ?_⟩
      · rintro j y H5 hj ⟨s5, R5⟩
        have lj : j < ns.length := by have := (List.getElem?_eq_some_iff.mp hj).1; rw [List.length_map] at this; exact this
        rw [List.getElem?_map, List.getElem?_eq_getElem lj] at hj
        obtain rfl : V.str ns[j] = y := Option.some.inj hj
        have tk : ns.take (j + 1) = ns.take j ++ [ns[j]] := take_one (List.getElem?_eq_getElem lj)
        refine ⟨rfl, _, rfl, _, rfl, _, _, rfl, rfl, _, rfl, ?_⟩
        show if ltS ns[i] ns[j] = true then _ else _
        by_cases c : ltS ns[i] ns[j] = true
        · rw [c]
          refine iteT ⟨_, rfl, _, rfl, by show 2 ≤ sizeLine; decide, fun t ht => ?_⟩
          have s6 : Same H5 (L2.upd H5 t (.tup [.str ns[i], .str ns[j]])) := Same.new ht
          obtain ⟨zs, z1, z2, z3⟩ := (R5.kept s6).push (t := t) upd_same
          refine ⟨zs, z1, ?_, Same.grow hD (s5.trans s6), ?_⟩
          · rw [z2, List.length_map, sizeLine_eq]
            have := List.length_filter_le (ltS ns[i]) (ns.take j)
            rw [List.length_take] at this; omega
          · rw [tk, List.filter_append, List.map_append]
            have q : [ns[j]].filter (ltS ns[i]) = [ns[j]] := by simp [c]
            rw [q]; exact z3
        · have c' : ltS ns[i] ns[j] = false := by simpa using c
          rw [c']
          refine iteF ⟨s5, ?_⟩
          rw [tk, List.filter_append]
          have q : [ns[j]].filter (ltS ns[i]) = [] := by simp [c']
          rw [q, List.append_nil]; exact R5
      · rintro H5 ⟨s5, R5⟩
        rw [List.length_map, List.take_length] at R5
        have er : rowE ns i = (ns.filter (ltS ns[i])).map fun m => (ns[i], m) := by
          unfold rowE; rw [List.getElem?_eq_getElem li]
        rw [← er] at R5
        obtain ⟨zs, ys, z1, z2, z3, z4, z5⟩ := (R4.kept s5).ext R5
        refine ⟨e, D, zs, ys, rfl, rfl, z1, z2, ?_, ?_⟩
        · rw [z3, z4, sizeLine_eq]
          have q1 := upE_len (m := ns.length) (rowE_len ns) i
          have q2 := rowE_len ns i
          have q3 : i * ns.length ≤ 8 * 8 := Nat.mul_le_mul (by omega) n8
          omega
        · exact ⟨_, rfl, Same.grow he (s4.trans s5), z5⟩
    · rintro σ H4 ⟨v4, rfl, s4, ks, k1, k2, k3⟩
      rw [List.length_map] at k3
      have S4 := S2.but s4
      have klen : ks.length ≤ 64 := by
        have q1 := upE_len (m := ns.length) (rowE_len ns) ns.length
        have q3 : ns.length * ns.length ≤ 8 * 8 := Nat.mul_le_mul n8 n8
        have q4 := congrArg List.length k3
        rw [List.length_map] at q4; omega
      have kok : ∀ p ∈ ks, EdOk ns p.2 := fun p hp => upE_ok (n := ns.length) (by rw [← k3]; exact List.mem_map.mpr ⟨p, hp, rfl⟩)
      refine ⟨_, rfl, _, rfl, _, rfl, a, e, _, rfl, S4, ea.symm, k1, fun x hx => ?_, by rw [List.length_map]; omega, fun p2 ys H5 pm2 hp20 hp21 S5 B5 => ?_⟩
      · obtain ⟨p, hp, rfl⟩ := List.mem_map.mp hx
        obtain ⟨o1, o2, _⟩ := kok p hp
        exact .inr ⟨p.1, p.2.1, p.2.2, rfl, k2 p hp, (nok _ o1).strOk, (nok _ o2).strOk⟩
      obtain ⟨js, pj, rfl⟩ := perm_map pm2 ks rfl
      have p2a := S4.ne hp20
      have n4 := s4 _ _ n2
      have n5 := B5 n _ na n4
      have j5 : ∀ p ∈ js, EdAt H5 p := fun p hp => EdAt.but S4 B5 (k2 p (pj.mem_iff.mp hp))
      refine ⟨_, rfl, p2, _, rfl, SqL.of hp21, fun e2 he2 => ?_⟩
      have e2a := S5.ne he2
      rw [cut_take _ _ (by decide), ← List.map_take]
      refine ⟨by show 2 ≤ sizeLine; decide, fun t ht => ?_⟩
      have B07 : But a H H5 := (B02.trans (But.of_same s4)).trans B5
      have s78 : Same H5 (L2.upd H5 e2 (.lst ((js.take (18 : Int).toNat).map fun p => V.ref p.1))) := Same.new he2
      have s79 : Same H5 (L2.upd (L2.upd H5 e2 (.lst ((js.take (18 : Int).toNat).map fun p => V.ref p.1))) t (.tup [.ref n, .ref e2])) := s78.trans (Same.new ht)
      have jsub : ∀ p ∈ js.take (18 : Int).toNat, p ∈ js := fun p hp => List.mem_of_mem_take hp
      refine k t n e2 ns (js.take (18 : Int).toNat) _ upd_same ⟨s79 _ _ n5, n0, n8, nnd, nok, ?_, fun p hp => s79 _ _ (j5 p (jsub p hp)), fun p hp => kok p (pj.mem_iff.mp (jsub p hp)), ?_, ?_⟩ (fun z hz => pb.mem_iff.mp hz) n00 (B07.none e2a he2) (S5.but s79) (B07.trans (But.of_same s79))
      · rw [upd_ne (ne_of_none (upd_same (H := H5) (a := e2)) ht)]; exact upd_same
      · have nd1 : (js.map (·.2)).Nodup := (pj.map (·.2)).nodup_iff.mpr (by rw [k3]; exact upE_nd nnd _)
        rw [List.map_take]; exact nd1.sublist (List.take_sublist _ _)
      · rw [List.length_take]; exact Nat.min_le_left _ _
end
end CP
namespace CP
open PySem L2
/-! ### lists of pairs as data -/
def pD (p : E2 × E2) : PyData := .tuple [encE p.1, encE p.2]
def OkE (e : E2) : Prop := PyData.strOk e.1 = true ∧ PyData.strOk e.2 = true
def OkP (p : E2 × E2) : Prop := OkE p.1 ∧ OkE p.2
theorem encE_lay {e : E2} (h : OkE e) : (encE e).canLay0 = true := by simp [encE, PyData.canLay0, PyData.canLayAll0, h.1, h.2]
theorem pD_lay {p : E2 × E2} (h : OkP p) : (pD p).canLay0 = true := by
  have a := encE_lay h.1; have b := encE_lay h.2
  simp [pD, PyData.canLay0, PyData.canLayAll0, a, b]
theorem pDs_lay : ∀ {ps : List (E2 × E2)}, (∀ p ∈ ps, OkP p) → PyData.canLayAll0 (ps.map pD) = true
  | [], _ => by simp [PyData.canLayAll0]
  | p :: ps, h => by
    have a := pD_lay (h p List.mem_cons_self)
    have b := pDs_lay fun q hq => h q (List.mem_cons_of_mem _ hq)
    simp [PyData.canLayAll0, a, b]
theorem encE_depth (e : E2) : (encE e).depth = 1 := by simp [encE, PyData.depth, PyData.depthAll]
theorem pD_depth (p : E2 × E2) : (pD p).depth = 2 := by simp [pD, PyData.depth, PyData.depthAll, encE_depth]
theorem pDs_depth : ∀ ps : List (E2 × E2), PyData.depthAll (ps.map pD) ≤ 2
  | [] => by simp [PyData.depthAll]
  | p :: ps => by
    have a := pD_depth p; have b := pDs_depth ps
    simp only [List.map_cons, PyData.depthAll]; omega
theorem pDs_shaped {ps : List (E2 × E2)} (h : ∀ p ∈ ps, OkP p) : SeqAt.shaped (.list (ps.map pD)) = true := by
  have c1 : (PyData.list (ps.map pD)).canLay0 = true := by simp [PyData.canLay0, pDs_lay h]
  have c2 : (PyData.list (ps.map pD)).depth = PyData.depthAll (ps.map pD) + 1 := by first | rfl | simp [PyData.depth, Nat.add_comm]
  have := pDs_depth ps
  unfold SeqAt.shaped; rw [c1, c2]; simp; omega
theorem alike_pD (p q : E2 × E2) : PySem.W.alike (pD p) (pD q) = true := by simp [pD, encE, PySem.W.alike, PySem.W.alikeAll]
theorem alike_pDs : ∀ ps : List (E2 × E2), PySem.W.alikeAll (ps.map pD) (ps.map pD) = true
  | [] => by simp [PySem.W.alikeAll]
  | p :: ps => by simp [PySem.W.alikeAll, alike_pD, alike_pDs ps]
theorem eqv_pDs (ps : List (E2 × E2)) : PyData.eqv (.list (ps.map pD)) (.list (ps.map pD)) = true := PySem.W.eqv_refl_alike _ (by simp [PySem.W.alike, alike_pDs])
theorem dp_pair {K : PySem.W.Frag} {H : Hp} {q : Pr} (h : PrAt H q) : Dp K H (.ref q.1) (pD (prV q)) := .tup (SqT.of h.ob) (.cons (dp_edge h.one) (.cons (dp_edge h.two) .nil))
theorem dp_pairs {K : PySem.W.Frag} {H : Hp} : ∀ {qs : List Pr}, (∀ q ∈ qs, PrAt H q) → DpAll K H (qs.map fun q => V.ref q.1) ((qs.map prV).map pD)
  | [], _ => .nil
  | q :: qs, h => .cons (dp_pair (h q List.mem_cons_self)) (dp_pairs fun r hr => h r (List.mem_cons_of_mem _ hr))
theorem PrsAt.dp {K : PySem.W.Frag} {H : Hp} {l : Addr} {ps : List (E2 × E2)} (h : PrsAt H l ps) : Dp K H (.ref l) (.list (ps.map pD)) := by
  obtain ⟨qs, a, b, rfl⟩ := h
  exact .lst (SqL.of a) (dp_pairs b)
/-! ### the order of pairs -/
theorem eqv_E (e f : E2) : PyData.eqv (encE e) (encE f) = decide (e = f) := by
  have h : PyData.eqv (encE e) (encE f) = (PyData.eqv (.str e.1) (.str f.1) && PyData.eqv (.str e.2) (.str f.2)) := by simp [encE, PyData.eqv, PyData.eqvAll]
  rw [h, eqv_str, eqv_str]
  obtain ⟨a, b⟩ := e; obtain ⟨c, d⟩ := f
  by_cases h1 : a = c <;> by_cases h2 : b = d <;> simp [h1, h2]
def ltP (p q : E2 × E2) : Bool := if p.1 = q.1 then (if p.2 = q.2 then false else ltE p.2 q.2) else ltE p.1 q.1
theorem dataLt_P (p q : E2 × E2) : PySem.W.dataLt (pD p) (pD q) = ltP p q := by
  unfold pD ltP
  rw [PySem.W.dataLt_pair (by simp [encE, PySem.W.alike, PySem.W.alikeAll]) (by simp [encE, PySem.W.alike, PySem.W.alikeAll]), eqv_E, eqv_E, dataLt_E, dataLt_E]
  by_cases h1 : p.1 = q.1 <;> by_cases h2 : p.2 = q.2 <;> simp [h1, h2]
theorem ltP_asymm {e f : E2 × E2} (h : ltP e f = true) : ltP f e = false := by
  unfold ltP at *
  by_cases h1 : e.1 = f.1
  · rw [if_pos h1] at h; rw [if_pos h1.symm]
    by_cases h2 : e.2 = f.2
    · rw [if_pos h2] at h; cases h
    · rw [if_neg h2] at h; rw [if_neg fun z => h2 z.symm]; exact ltE_asymm h
  · rw [if_neg h1] at h; rw [if_neg fun z => h1 z.symm]; exact ltE_asymm h
theorem ltP_total {e f : E2 × E2} (h : e ≠ f) (h2 : ltP e f = false) : ltP f e = true := by
  unfold ltP at *
  by_cases h1 : e.1 = f.1
  · rw [if_pos h1] at h2; rw [if_pos h1.symm]
    by_cases h3 : e.2 = f.2
    · exact absurd (Prod.ext h1 h3) h
    · rw [if_neg h3] at h2; rw [if_neg fun z => h3 z.symm]; exact ltE_total h3 h2
  · rw [if_neg h1] at h2; rw [if_neg fun z => h1 z.symm]; exact ltE_total h1 h2
def leP (p q : Pr) : Bool := PySem.W.dataLe false (fun p : Pr => pD (prV p)) p q
theorem leP_eq (p q : Pr) : leP p q = !ltP (prV q) (prV p) := by
  show (!PySem.W.dataLt (pD (prV q)) (pD (prV p))) = _
  rw [dataLt_P]
theorem leP_total : PySem.W.TotalLe leP := by
  show PySem.W.TotalLe (PySem.W.dataLe false fun p : Pr => pD (prV p))
  exact PySem.W.sortLe_total _ _ _
/-- the pairs in ascending order -/
def sortP (ks : List Pr) : List Pr := ks.mergeSort leP
theorem sortP_perm (ks : List Pr) : (sortP ks).Perm ks := List.mergeSort_perm ks leP
theorem sortP_lt {ks : List Pr} (nd : (ks.map prV).Nodup) : ((sortP ks).map prV).Pairwise (fun p q => ltP p q = true) := by
  have h1 := PySem.W.sort_pairwise leP_total ks
  have h2 : ((sortP ks).map prV).Nodup := ((sortP_perm ks).map _).nodup_iff.mpr nd
  rw [List.nodup_iff_pairwise_ne, List.pairwise_map] at h2
  rw [List.pairwise_map]
  refine (h1.and h2).imp fun {p q} ⟨a, b⟩ => ?_
  rw [leP_eq] at a
  have a' : ltP (prV q) (prV p) = false := by simpa using a
  exact ltP_total (fun z => b z.symm) a'
theorem ascP_unique : ∀ {l m : List (E2 × E2)}, l.Perm m → l.Pairwise (fun p q => ltP p q = true) → m.Pairwise (fun p q => ltP p q = true) → l = m
  | [], m, h, _, _ => h.nil_eq
  | p :: l, [], h, _, _ => absurd h.length_eq (by simp)
  | p :: l, q :: m, h, h1, h2 => by
    have e : p = q := by
      by_cases c : p = q
      · exact c
      · have a : p ∈ m := by
          have := h.mem_iff.mp (List.mem_cons_self (a := p) (l := l))
          rcases List.mem_cons.mp this with z | z
          · exact absurd z c
          · exact z
        have b : q ∈ l := by
          have := h.mem_iff.mpr (List.mem_cons_self (a := q) (l := m))
          rcases List.mem_cons.mp this with z | z
          · exact absurd z.symm c
          · exact z
        have u := (List.pairwise_cons.mp h1).1 q b
        have v := (List.pairwise_cons.mp h2).1 p a
        rw [ltP_asymm u] at v; cases v
    subst e
    rw [ascP_unique (List.Perm.cons_inv h) (List.pairwise_cons.mp h1).2 (List.pairwise_cons.mp h2).2]
/-- two lists of the same pairs, sorted, are one -/
theorem sortP_same {ks js : List Pr} (h : (js.map prV).Perm (ks.map prV)) (nd : (ks.map prV).Nodup) : (sortP js).map prV = (sortP ks).map prV :=
  ascP_unique ((((sortP_perm js).map prV).trans h).trans ((sortP_perm ks).map prV).symm) (sortP_lt (h.nodup_iff.mpr nd)) (sortP_lt nd)
section
variable {X : Cx}
theorem each_refsP : ∀ {ks : List Pr} {us : List Value}, PySem.W.EachIs (fun v (p : Pr) => v = Value.ref p.1) us ks → us = ks.map fun p => Value.ref p.1
  | [], _, .nil => rfl
  | p :: ks, _, .cons h t => by rw [h, each_refsP t]; rfl
theorem refs_eachP : ∀ ks : List Pr, PySem.W.EachIs (fun v (p : Pr) => v = Value.ref p.1) (ks.map fun p => Value.ref p.1) ks
  | [] => .nil
  | p :: ks => .cons rfl (refs_eachP ks)
theorem vals_refsP : ∀ ks : List Pr, Vals (ks.map fun p => V.ref p.1) (ks.map fun p => Value.ref p.1)
  | [] => .nil
  | p :: ks => .cons rfl (vals_refsP ks)
theorem reads_eachP {pins : List (Addr × Obj)} {σ : L2.St} {H : Hp} {s : Shared} (I : L2.Inv X pins σ H s) : ∀ {ks : List Pr}, (∀ p ∈ ks, PrAt H p) → PySem.W.EachIs (fun v (p : Pr) => ∃ as, Reads s.heap v (pD (prV p)) as) (ks.map fun p => Value.ref p.1) ks
  | [], _ => .nil
  | p :: ks, h => .cons (Dp.reads I _ _ _ (dp_pair (h p List.mem_cons_self)) rfl) (reads_eachP I fun q hq => h q (List.mem_cons_of_mem _ hq))
/-- sorted(a list of pairs) -/
def rSortP : List V → Hp → VK → Prop := fun vs H Q => ∃ (a : Addr) (ks : List Pr), vs = [V.ref a] ∧ H a = some (.lst (ks.map fun p => V.ref p.1)) ∧ (∀ p ∈ ks, PrAt H p) ∧ ks.length < 1000 ∧
  ∀ p, H p = none → Q (.ref p) (L2.upd H p (.lst ((sortP ks).map fun p => V.ref p.1)))
theorem cr_sortP (hu : X.A.units + 64 < cLine) : CallR X (.builtin "sorted") rSortP := by
  intro pins s σ H vs us Q I r h
  obtain ⟨a, ks, rfl, hA, hat, few, k⟩ := h
  obtain ⟨its, rv, pl, _⟩ := I.list (SqL.of hA)
  rw [Vals.ref1 r]
  have ei := refs_only (κ := Ed × Ed) rv
  subst ei
  refine PySem.W.sorted_data (β := Pr) (R := fun v p => v = Value.ref p.1) (enc := fun p => pD (prV p)) pl.isList (refs_eachP ks) (reads_eachP I hat) (PySem.W.AllAlike.of fun b b' => alike_pD _ _) (PySem.W.Sortable.tuples fun b => ⟨_, _, rfl⟩) (by rw [sizeLine_eq]; omega)
    (fun b _ => by rw [pD_depth]; omega) fun out hl e => ?_
  have eo : out = (sortP ks).map fun p => Value.ref p.1 := each_refsP e
  subst eo
  obtain ⟨ep, he⟩ := PyProof.Rows.sortedAll_at s.heap (ks.map fun p => Value.ref p.1) ((sortP ks).map fun p => Value.ref p.1).toArray
  have len : ((sortP ks).map fun p => V.ref p.1).length ≤ sizeLine := by rw [List.length_map, (sortP_perm ks).length_eq, sizeLine_eq]; omega
  exact ⟨.ref _, L2.upd H (s.heap.objs.size + 1) (.lst ((sortP ks).map fun p => V.ref p.1)), I.laid (t' := s.toks) (fun _ _ => PyProof.Rows.sortedAll_old) (Nat.le_succ _) ⟨len, _, ep, vals_refsP _, he⟩, rfl, k _ (I.hok.fresh (Nat.le_succ _))⟩
end
end CP
/-! min(x, y), max(x, y) of data -/
namespace CP
open PySem PySem.W PySem.Spec PyProof.Rows
section
variable {prog : Program} {w : World} {A : Around} {E : Value → Shared → Prop} {s : Shared}
abbrev pairO (x y : Value) : Obj := { cls := .type "tuple", data := .seq [x, y].toArray }
theorem min2_data {x y : Value} {dx dy : PyData} {ax ay : List Addr} {Q : Value → Shared → Prop} (hh : A.handled = none) (rx : Reads s.heap x dx ax) (ry : Reads s.heap y dy ay) (al : AlikeAll [dx, dy]) (hu : A.units + 1 + PyData.depthAll [dx, dy] < cLine)
    (h : ∀ h' tk, (∀ b o, s.heap.get? b = some o → h'.get? b = some o) → Q (if dataLt dy dx = true then y else x) { s with heap := h', toks := tk }) : wpAny (model prog w) A (call (.builtin "min") [x, y]) Q E s := by
  have nameL : (toString "min" ++ toString ".loop" : String) = "min.loop" := by decide
  have up : ∀ b o, s.heap.get? b = some o → (s.heap.push (pairO x y)).get? b = some o := fun b o e => Heap.get?_push_of_some _ e
  have rs : ReadsAll (s.heap.push (pairO x y)) (#[x, y] : Array Value).toList [dx, dy] _ := .cons (PyProof.Rows.Reads.keeps up rx) (.cons (PyProof.Rows.Reads.keeps up ry) .nil)
  have tup : (s.heap.push (pairO x y)).IsTuple s.heap.objs.size #[x, y] := ⟨_, Heap.get?_push_size _ rfl, rfl, 0, rfl⟩
  refine call_function_tree F.kind_min F.plain_min F.entry_min (F.args_min2 _ _) ?_
  show wpAny _ A.in1 (Builtin.Builtins.bindParams "min" _ 0 ⟨[], []⟩ >>= _) _ _ s
  refine wpAny_bind (wpAny_of_eq (a := [none, none]) rfl ?_)
  show wpAny _ A.in1 (newTuple [x, y] >>= _) _ _ s
  refine wpAny_bind (wpAny_newObj_type (wpAny_bind ?_))
  refine iter_tupleW (s := { s with heap := s.heap.push (pairO x y) }) (A := A.in1) hh tup fun s2 e W st fp wr kp => ?_
  refine wpAny_bind (wpAny_newObj_type ?_)
  rw [nameL]
  refine wpAny_pure ⟨plainId_quiet F.plain_min_loop _, codeAny_min_loop_firstH W (s.heap.push (pairO x y)) wr _ (cmpIn_lt (s := { s with heap := s.heap.push (pairO x y) }) (A := A.in1) rs al (by show A.units + 1 + _ < _; exact hu)) s2.heap.objs.size (fun z => Nat.lt_irrefl _ (fp _ z)) (fresh_in kp) _ (by show 0 < 2; decide) (fun b o z => Heap.get?_push_of_some _ (kp b o z)) (W.frame 0 s2 _ s2.toks st (Nat.le_refl _) fun b _ o z => Heap.get?_push_of_some _ z) (Heap.get?_push_size _ rfl) fun v s3 hv mv => ?_⟩
  obtain ⟨h3, tk, rfl, k3⟩ := moved_old e rfl (Moved.drop_new (tk := s2.toks) mv (Nat.le_refl _))
  have ev : v = if dataLt dy dx = true then y else x := by
    by_cases c : dataLt dy dx = true
    · rw [if_pos c]
      have hv' : (#[x, y] : Array Value)[if dataLt dy dx = true then 1 else 0]? = some v := hv
      rw [if_pos c] at hv'; exact (Option.some.inj hv').symm
    · rw [if_neg c]
      have hv' : (#[x, y] : Array Value)[if dataLt dy dx = true then 1 else 0]? = some v := hv
      rw [if_neg c] at hv'; exact (Option.some.inj hv').symm
  rw [ev]
  exact h h3 tk fun b o z => k3 b o (up b o z)
theorem max2_data {x y : Value} {dx dy : PyData} {ax ay : List Addr} {Q : Value → Shared → Prop} (hh : A.handled = none) (rx : Reads s.heap x dx ax) (ry : Reads s.heap y dy ay) (al : AlikeAll [dx, dy]) (hu : A.units + 1 + PyData.depthAll [dx, dy] < cLine)
    (h : ∀ h' tk, (∀ b o, s.heap.get? b = some o → h'.get? b = some o) → Q (if dataLt dx dy = true then y else x) { s with heap := h', toks := tk }) : wpAny (model prog w) A (call (.builtin "max") [x, y]) Q E s := by
  have nameL : (toString "max" ++ toString ".loop" : String) = "max.loop" := by decide
  have up : ∀ b o, s.heap.get? b = some o → (s.heap.push (pairO x y)).get? b = some o := fun b o e => Heap.get?_push_of_some _ e
  have rs : ReadsAll (s.heap.push (pairO x y)) (#[x, y] : Array Value).toList [dx, dy] _ := .cons (PyProof.Rows.Reads.keeps up rx) (.cons (PyProof.Rows.Reads.keeps up ry) .nil)
  have tup : (s.heap.push (pairO x y)).IsTuple s.heap.objs.size #[x, y] := ⟨_, Heap.get?_push_size _ rfl, rfl, 0, rfl⟩
  refine call_function_tree F.kind_max F.plain_max F.entry_max (F.args_max2 _ _) ?_
  show wpAny _ A.in1 (Builtin.Builtins.bindParams "max" _ 0 ⟨[], []⟩ >>= _) _ _ s
  refine wpAny_bind (wpAny_of_eq (a := [none, none]) rfl ?_)
  show wpAny _ A.in1 (newTuple [x, y] >>= _) _ _ s
  refine wpAny_bind (wpAny_newObj_type (wpAny_bind ?_))
  refine iter_tupleW (s := { s with heap := s.heap.push (pairO x y) }) (A := A.in1) hh tup fun s2 e W st fp wr kp => ?_
  refine wpAny_bind (wpAny_newObj_type ?_)
  rw [nameL]
  refine wpAny_pure ⟨plainId_quiet F.plain_max_loop _, codeAny_max_loop_firstH W (s.heap.push (pairO x y)) wr _ (cmpIn_gt (s := { s with heap := s.heap.push (pairO x y) }) (A := A.in1) rs al (by show A.units + 1 + _ < _; exact hu)) s2.heap.objs.size (fun z => Nat.lt_irrefl _ (fp _ z)) (fresh_in kp) _ (by show 0 < 2; decide) (fun b o z => Heap.get?_push_of_some _ (kp b o z)) (W.frame 0 s2 _ s2.toks st (Nat.le_refl _) fun b _ o z => Heap.get?_push_of_some _ z) (Heap.get?_push_size _ rfl) fun v s3 hv mv => ?_⟩
  obtain ⟨h3, tk, rfl, k3⟩ := moved_old e rfl (Moved.drop_new (tk := s2.toks) mv (Nat.le_refl _))
  have ev : v = if dataLt dx dy = true then y else x := by
    by_cases c : dataLt dx dy = true
    · rw [if_pos c]
      have hv' : (#[x, y] : Array Value)[if dataLt dx dy = true then 1 else 0]? = some v := hv
      rw [if_pos c] at hv'; exact (Option.some.inj hv').symm
    · rw [if_neg c]
      have hv' : (#[x, y] : Array Value)[if dataLt dx dy = true then 1 else 0]? = some v := hv
      rw [if_neg c] at hv'; exact (Option.some.inj hv').symm
  rw [ev]
  exact h h3 tk fun b o z => k3 b o (up b o z)
end
open L2
section
variable {X : Cx}
theorem alike_two (e f : E2) : AlikeAll [encE e, encE f] := by
  refine ⟨fun x hx y hy => ?_, fun x hx => ?_⟩
  · simp only [List.mem_cons, List.not_mem_nil, or_false] at hx hy
    rcases hx with rfl | rfl <;> rcases hy with rfl | rfl <;> simp [encE, alike, alikeAll]
  · simp only [List.mem_cons, List.not_mem_nil, or_false] at hx
    rcases hx with rfl | rfl <;> simp [encE]
theorem two_depth (e f : E2) : PyData.depthAll [encE e, encE f] = 1 := by simp [PyData.depthAll, encE_depth]
def rMinE : List V → Hp → VK → Prop := fun vs H Q => ∃ p q : Ed, vs = [.ref p.1, .ref q.1] ∧ EdAt H p ∧ EdAt H q ∧ Q (.ref (if ltE q.2 p.2 = true then q.1 else p.1)) H
def rMaxE : List V → Hp → VK → Prop := fun vs H Q => ∃ p q : Ed, vs = [.ref p.1, .ref q.1] ∧ EdAt H p ∧ EdAt H q ∧ Q (.ref (if ltE p.2 q.2 = true then q.1 else p.1)) H
theorem call_minE (hc : X.calm = true) (hu : X.A.units + 64 < cLine) : CallR X (.builtin "min") rMinE := by
  intro pins s σ H xs us Q I r h
  obtain ⟨p, q, rfl, hp, hq, k⟩ := h
  obtain ⟨u, v, rfl, r1, r2⟩ := vals2 r
  obtain ⟨as, ra⟩ := Dp.reads I (encE p.2) _ u (dp_edge hp) r1
  obtain ⟨bs, rb⟩ := Dp.reads I (encE q.2) _ v (dp_edge hq) r2
  refine min2_data (I.ok.hd hc) ra rb (alike_two _ _) (by rw [two_depth]; omega) fun h' tk kp => ⟨_, H, I.kept (t' := tk) kp, ?_, k⟩
  rw [dataLt_E]
  cases ltE q.2 p.2
  · exact r1
  · exact r2
theorem call_maxE (hc : X.calm = true) (hu : X.A.units + 64 < cLine) : CallR X (.builtin "max") rMaxE := by
  intro pins s σ H xs us Q I r h
  obtain ⟨p, q, rfl, hp, hq, k⟩ := h
  obtain ⟨u, v, rfl, r1, r2⟩ := vals2 r
  obtain ⟨as, ra⟩ := Dp.reads I (encE p.2) _ u (dp_edge hp) r1
  obtain ⟨bs, rb⟩ := Dp.reads I (encE q.2) _ v (dp_edge hq) r2
  refine max2_data (I.ok.hd hc) ra rb (alike_two _ _) (by rw [two_depth]; omega) fun h' tk kp => ⟨_, H, I.kept (t' := tk) kp, ?_, k⟩
  rw [dataLt_E]
  cases ltE p.2 q.2
  · exact r1
  · exact r2
end
end CP
/-! Values of any kind: is_couple, is_among, joins, is_edge, is_carry -/
namespace CP
open PySem L2
abbrev sIsEdge : Stmt := top 20
abbrev sCarry : Stmt := top 22
mutual
/-- a value of any kind, as data; a dict without items stands for the dicts -/
inductive Od (H : Hp) : V → PyData → Prop
  | non : Od H .non .none
  | int (i : Int) : Od H (.int i) (.int i)
  | str (x : Str) : Od H (.str x) (.str x)
  | lst {a : Addr} {xs : List V} {ds : List PyData} : H a = some (.lst xs) → OdAll H xs ds → Od H (.ref a) (.list ds)
  | tup {a : Addr} {xs : List V} {ds : List PyData} : H a = some (.tup xs) → OdAll H xs ds → Od H (.ref a) (.tuple ds)
  | dct {a : Addr} : H a = some (.dK []) → Od H (.ref a) (.dict [])
inductive OdAll (H : Hp) : List V → List PyData → Prop
  | nil : OdAll H [] []
  | cons {v : V} {vs : List V} {d : PyData} {ds : List PyData} : Od H v d → OdAll H vs ds → OdAll H (v :: vs) (d :: ds)
end
mutual
theorem Od.same {H H' : Hp} (s : Same H H') : ∀ {v : V} {d : PyData}, Od H v d → Od H' v d
  | _, _, .non => .non
  | _, _, .int i => .int i
  | _, _, .str x => .str x
  | _, _, .lst h a => .lst (s _ _ h) (OdAll.same s a)
  | _, _, .tup h a => .tup (s _ _ h) (OdAll.same s a)
  | _, _, .dct h => .dct (s _ _ h)
theorem OdAll.same {H H' : Hp} (s : Same H H') : ∀ {vs : List V} {ds : List PyData}, OdAll H vs ds → OdAll H' vs ds
  | _, _, .nil => .nil
  | _, _, .cons h t => .cons (h.same s) (t.same s)
end
def coupB : PyData → Bool
  | .tuple [_, _] => true
  | _ => false
def amB (ns : List Str) : PyData → Bool
  | .str z => decide (z ∈ ns)
  | _ => false
def joB (ns : List Str) : PyData → Bool
  | .tuple [.str u, .str v] => decide (u ∈ ns) && (decide (v ∈ ns) && ltS u v)
  | _ => false
def edB (ns : List Str) (es : List E2) : PyData → Bool
  | .tuple [.str u, .str v] => (decide (u ∈ ns) && (decide (v ∈ ns) && ltS u v)) && decide ((u, v) ∈ es)
  | _ => false
def offB : PyData → Str → Bool
  | .tuple [.str u, .str v], z => decide (z ∉ [u, v])
  | _, _ => false
def caB (ns : List Str) (es : List E2) : PyData → Bool
  | .tuple [e, .str z] => edB ns es e && (decide (z ∈ ns) && offB e z)
  | _ => false
def spCoupleG : Sp := fun vs H Q _ => ∃ (x : V) (d : PyData), vs = [x] ∧ Od H x d ∧ Q (.bl (coupB d)) H
def spAmongG (K : PySem.W.Frag) : Sp := fun vs H Q _ => ∃ (a : Addr) (ns : List Str) (x : V) (d : PyData), vs = [.ref a, x] ∧ (SqL K H a (ns.map V.str) ∨ SqT K H a (ns.map V.str)) ∧ Od H x d ∧ Q (.bl (amB ns d)) H
def spJoinsG (K : PySem.W.Frag) : Sp := fun vs H Q _ => ∃ (a : Addr) (ns : List Str) (x : V) (d : PyData), vs = [.ref a, x] ∧ (SqL K H a (ns.map V.str) ∨ SqT K H a (ns.map V.str)) ∧ Od H x d ∧ Q (.bl (joB ns d)) H
def spIsEdge (C : Addr) : Sp := fun vs H Q _ => ∃ (g : Addr) (ns : List Str) (es : List Ed) (x : V) (d : PyData), vs = [.ref g, x] ∧ GrAt C H g ns es ∧ Od H x d ∧ Q (.bl (edB ns (es.map (·.2)) d)) H
def spCarry (C : Addr) : Sp := fun vs H Q _ => ∃ (g : Addr) (ns : List Str) (es : List Ed) (x : V) (d : PyData), vs = [.ref g, x] ∧ GrAt C H g ns es ∧ Od H x d ∧ Q (.bl (caB ns (es.map (·.2)) d)) H
theorem odLen {H : Hp} : ∀ {vs : List V} {ds : List PyData}, OdAll H vs ds → vs.length = ds.length
  | _, _, .nil => rfl
  | _, _, .cons _ t => by rw [List.length_cons, List.length_cons, odLen t]
section
variable {X : Cx}
/-- x in a tuple of edges -/
def rInE : R2 := fun x y H Q => ∃ (p : Addr) (u v : Str) (t : Addr) (es : List Ed), x = .ref p ∧ y = .ref t ∧ H p = some (.tup [.str u, .str v]) ∧ H t = some (.tup (es.map fun q => V.ref q.1)) ∧ (∀ q ∈ es, EdAt H q) ∧ Q (.bl (decide ((u, v) ∈ es.map (·.2)))) H
theorem dp_edges {K : PySem.W.Frag} {H : Hp} : ∀ {es : List Ed}, (∀ q ∈ es, EdAt H q) → DpAll K H (es.map fun q => V.ref q.1) (es.map fun q => encE q.2)
  | [], _ => .nil
  | q :: es, h => .cons (dp_edge (h q List.mem_cons_self)) (dp_edges fun r hr => h r (List.mem_cons_of_mem _ hr))
theorem plain_es : ∀ es : List Ed, PyData.plainAll (es.map fun q => encE q.2) = true
  | [] => rfl
  | q :: es => by
    show (PyData.plain (encE q.2) && PyData.plainAll (es.map fun q => encE q.2)) = true
    rw [plain_es es]; simp [encE, PyData.plain, PyData.plainAll]
theorem any_es (e : E2) (es : List Ed) : ((es.map fun q => encE q.2).any fun y => PyData.eqv y (encE e)) = decide (e ∈ es.map (·.2)) := by
  rw [List.any_map]
  by_cases c : e ∈ es.map (·.2)
  · rw [decide_eq_true c]
    obtain ⟨q, hq, rfl⟩ := List.mem_map.mp c
    exact List.any_eq_true.mpr ⟨q, hq, by show PyData.eqv (encE q.2) (encE q.2) = true; rw [eqv_E]; simp⟩
  · rw [decide_eq_false c]
    cases h : es.any ((fun y => PyData.eqv y (encE e)) ∘ fun q => encE q.2) with
    | false => rfl
    | true =>
      obtain ⟨q, hq, z⟩ := List.any_eq_true.mp h
      have z' : PyData.eqv (encE q.2) (encE e) = true := z
      rw [eqv_E] at z'
      exact absurd (List.mem_map.mpr ⟨q, hq, of_decide_eq_true z'⟩) c
theorem op_inE (hu : X.A.units + 64 < cLine) : OpR X (compareOp .In) rInE := by
  intro pins s σ H x y v u Q I rx ry h
  obtain ⟨p, a, b, t, es, rfl, rfl, hp, ht, he, k⟩ := h
  obtain ⟨as, r1⟩ := Dp.reads I (encE (a, b)) _ v (dp_edge (p := (p, (a, b))) hp) rx
  obtain ⟨bs, r2⟩ := Dp.reads I (.tuple (es.map fun q => encE q.2)) _ u (.tup (SqT.of ht) (dp_edges he)) ry
  refine PySem.SeqAt.in_tuple_data r2 r1 (plain_es es) (by simp [encE, PyData.plain, PyData.plainAll]) (by rw [encE_depth]; omega) ⟨.bl _, H, I, rfl, ?_⟩
  rw [any_es]; exact k
end
section
variable {P : Program} {w : World} {K : PySem.W.Frag} {mg : Str → Option Value} {base : Heap}
theorem ok_coupleG {f : Addr} {fd : FuncData} (F : Fun K "is_couple" "is_couple" sCouple f fd) (mi : mg "isinstance" = none) (ml : mg "len" = none) (mt : mg "tuple" = none) : FnOk P w K mg base CX0 1 f fd ["value"] spCoupleG := by
  refine F.ok scCouple (fun vs H Q E h => ?_) (fun cdv A outer s H vs Q E hr h => ?_)
  · obtain ⟨x, d, rfl, _⟩ := h; rfl
  · obtain ⟨x, d, rfl, o, k⟩ := h
    refine ⟨_, pss_one (ps_ret (pe_and (pe_callB call_isi (by rfl) mi (by decide +kernel) (pa_cons (pv 0) (pa_cons (pe_bltn (v := .ty "tuple") (by rfl) mt (by decide +kernel) rfl) pa_nil)))
      (pe_one (pe_cmpR op_eq (pe_callB call_len_seq (by rfl) ml PySem.boot_len (pa_cons (pv 0) pa_nil)) pe_int (nomark _))))), ?_⟩
    cases o with
    | non => exact ⟨_, rfl, _, _, .type "NoneType", _, false, rfl, .ty _, .base .non, kit_ty (by decide +kernel), _, rfl, iteF k⟩
    | int i => exact ⟨_, rfl, _, _, .type "int", _, false, rfl, .ty _, .base (.int i), kit_ty (by decide +kernel), _, rfl, iteF k⟩
    | str z => exact ⟨_, rfl, _, _, .type "str", _, false, rfl, .ty _, .base (.str z), kit_ty (by decide +kernel), _, rfl, iteF k⟩
    | lst h _ => exact ⟨_, rfl, _, _, .type "list", _, false, rfl, .ty _, .base (.lst h), kit_ty (by decide +kernel), _, rfl, iteF k⟩
    | dct h => exact ⟨_, rfl, _, _, .type "dict", _, false, rfl, .ty _, .base (.dK h), kit_ty (by decide +kernel), _, rfl, iteF k⟩
    | @tup a xs ds h al =>
      refine ⟨_, rfl, _, _, .type "tuple", _, true, rfl, .ty _, .base (.tup h), kit_ty (by decide +kernel), _, rfl, iteT ?_⟩
      refine ⟨_, rfl, a, _, rfl, .inr (SqT.of h), rfl, ?_⟩
      have hl := odLen al
      have e : decide (V.int (xs.length : Int) = V.int 2) = coupB (.tuple ds) := by
        rw [hl]
        match ds with
        | [] => rfl
        | [_] => rfl
        | [_, _] => rfl
        | _ :: _ :: _ :: r =>
          rw [decide_eq_false (fun z => by injection z with z; simp only [List.length_cons] at z; omega)]; rfl
      rw [e]; exact k
theorem ok_amongG {f : Addr} {fd : FuncData} (F : Fun K "is_among" "is_among" sAmong f fd) (mi : mg "isinstance" = none) (ms : mg "str" = none) : FnOk P w K mg base CX0 1 f fd ["vertices", "value"] (spAmongG K) := by
  refine F.ok scAmong (fun vs H Q E h => ?_) (fun cdv A outer s H vs Q E hr h => ?_)
  · obtain ⟨a, ns, x, d, rfl, _⟩ := h; rfl
  · obtain ⟨a, ns, x, d, rfl, hA, o, k⟩ := h
    refine ⟨_, pss_one (ps_ret (pe_and (pe_callB call_isi (by rfl) mi (by decide +kernel) (pa_cons (pv 1) (pa_cons (pe_bltn (v := .ty "str") (by rfl) ms (by decide +kernel) rfl) pa_nil))) (pe_one (pe_cmpR op_in_seq (pv 1) (pv 0) rfl)))), ?_⟩
    cases o with
    | non => exact ⟨_, rfl, _, _, .type "NoneType", _, false, rfl, .ty _, .base .non, kit_ty (by decide +kernel), _, rfl, iteF k⟩
    | int i => exact ⟨_, rfl, _, _, .type "int", _, false, rfl, .ty _, .base (.int i), kit_ty (by decide +kernel), _, rfl, iteF k⟩
    | lst h _ => exact ⟨_, rfl, _, _, .type "list", _, false, rfl, .ty _, .base (.lst h), kit_ty (by decide +kernel), _, rfl, iteF k⟩
    | tup h _ => exact ⟨_, rfl, _, _, .type "tuple", _, false, rfl, .ty _, .base (.tup h), kit_ty (by decide +kernel), _, rfl, iteF k⟩
    | dct h => exact ⟨_, rfl, _, _, .type "dict", _, false, rfl, .ty _, .base (.dK h), kit_ty (by decide +kernel), _, rfl, iteF k⟩
    | str z =>
      refine ⟨_, rfl, _, _, .type "str", _, true, rfl, .ty _, .base (.str z), kit_ty (by decide +kernel), _, rfl, iteT ?_⟩
      refine ⟨_, rfl, _, rfl, a, _, rfl, hA, rfl, flat_txt ns, ?_⟩
      rw [inV_txt]; exact k
theorem joB_no {ns : List Str} {d : PyData} (h : coupB d = false) : joB ns d = false := by
  unfold joB; split
  · cases h
  · rfl
theorem joB_am {ns : List Str} {a b : PyData} : joB ns (.tuple [a, b]) = (amB ns a && (amB ns b && (match a, b with | .str u, .str v => ltS u v | _, _ => false))) := by
  cases a <;> cases b <;> simp [joB, amB]
theorem am_str {ns : List Str} {H : Hp} {x : V} {d : PyData} (o : Od H x d) (h : amB ns d = true) : ∃ z, d = .str z ∧ x = .str z ∧ z ∈ ns := by
  cases o with
  | str z => exact ⟨z, rfl, rfl, of_decide_eq_true h⟩
  | _ => cases h
theorem ok_joinsG {f fC fA : Addr} {fd fdC fdA : FuncData} (F : Fun K "joins" "joins" sJoins f fd) (mC : mg "is_couple" = some (.ref fC)) (FC : FnOk P w K mg base CX0 1 fC fdC ["value"] spCoupleG) (kC : PySem.W.keepIn K (.ref fC) = true) (bC : Binds K fdC ["value"] [])
    (mA : mg "is_among" = some (.ref fA)) (FA : FnOk P w K mg base CX0 1 fA fdA ["vertices", "value"] (spAmongG K)) (kA : PySem.W.keepIn K (.ref fA) = true) (bA : Binds K fdA ["vertices", "value"] []) : FnOk P w K mg base CX0 2 f fd ["vertices", "value"] (spJoinsG K) := by
  refine F.ok scJoins (fun vs H Q E h => ?_) (fun cdv A outer s H vs Q E hr h => ?_)
  · obtain ⟨a, ns, x, d, rfl, _⟩ := h; rfl
  · obtain ⟨a, ns, x, d, rfl, hA, o, k⟩ := h
    refine ⟨_, pss_cons (ps_if (pt_not (pt_val (pe_call FC hr rfl mC kC bC .nil pass0 (pa_cons (pv 1) pa_nil)))) (pss_one (ps_ret pe_bl)) pss_nil)
      (pss_cons (ps_asg (pv 1) (pg_tup rfl (pgs_cons (pg_name (i := 2) scJoins.nd rfl (Or.inl rfl)) (pgs_cons (pg_name (i := 3) scJoins.nd rfl (Or.inl rfl)) pgs_nil))))
      (pss_one (ps_ret (pe_and (pe_call FA hr rfl mA kA bA .nil pass0 (pa_cons (pv 0) (pa_cons (pv 2) pa_nil))) (pe_and (pe_call FA hr rfl mA kA bA .nil pass0 (pa_cons (pv 0) (pa_cons (pv 3) pa_nil))) (pe_one (pe_cmpR op_lt_str (pv 2) (pv 3) (nomark _)))))))), ?_⟩
    refine ⟨_, rfl, x, d, rfl, o, _, rfl, ?_⟩
    cases c : coupB d with
    | false => rw [joB_no c] at k; exact iteT k
    | true =>
      refine iteF ?_
      cases o with
      | @tup p xs ds hp al =>
        match ds, c, al, k with
        | [da, db], _, .cons (v := va) oa (.cons (v := vb) ob .nil), k =>
          refine ⟨_, rfl, p, _, rfl, SqT.of hp, rfl, _, _, rfl, _, _, rfl, rfl, ?_⟩
          rw [joB_am] at k
          refine ⟨_, rfl, _, rfl, a, ns, va, da, rfl, hA, oa, _, rfl, ?_⟩
          cases c1 : amB ns da with
          | false => rw [c1] at k; exact iteF k
          | true =>
            rw [c1] at k
            refine iteT ⟨_, rfl, _, rfl, a, ns, vb, db, rfl, hA, ob, _, rfl, ?_⟩
            cases c2 : amB ns db with
            | false => rw [c2] at k; exact iteF k
            | true =>
              rw [c2] at k
              obtain ⟨u, rfl, rfl, _⟩ := am_str oa c1
              obtain ⟨v, rfl, rfl, _⟩ := am_str ob c2
              exact iteT ⟨_, rfl, _, rfl, _, _, rfl, rfl, k⟩
      | _ => cases c
theorem scIsEdge : FnScope ["graph", "value"] ["graph", "value"] (defScope sIsEdge) := ⟨rfl, rfl, rfl, by decide +kernel, rfl, by decide +kernel, by decide +kernel⟩
theorem edB_no {ns : List Str} {es : List E2} {d : PyData} (h : joB ns d = false) : edB ns es d = false := by
  unfold edB; split
  · rename_i u v
    have h' : (decide (u ∈ ns) && (decide (v ∈ ns) && ltS u v)) = false := h
    rw [h']; rfl
  · rfl
theorem jo_str {ns : List Str} {H : Hp} {x : V} {d : PyData} (o : Od H x d) (h : joB ns d = true) : ∃ (p : Addr) (u v : Str), x = .ref p ∧ H p = some (.tup [.str u, .str v]) ∧ d = .tuple [.str u, .str v] := by
  cases o with
  | @tup p xs ds hp al =>
    match ds, h, al with
    | [.str u, .str v], _, .cons oa (.cons ob .nil) =>
      cases oa; cases ob
      exact ⟨p, u, v, rfl, hp, rfl⟩
  | _ => cases h
theorem ok_isedge {f fJ C : Addr} {fd fdJ : FuncData} (F : Fun K "is_edge" "is_edge" sIsEdge f fd) (T : GTxt K mg C)
    (mJ : mg "joins" = some (.ref fJ)) (FJ : FnOk P w K mg base CX0 2 fJ fdJ ["vertices", "value"] (spJoinsG K)) (kJ : PySem.W.keepIn K (.ref fJ) = true) (bJ : Binds K fdJ ["vertices", "value"] []) : FnOk P w K mg base CX0 3 f fd ["graph", "value"] (spIsEdge C) := by
  refine F.ok scIsEdge (fun vs H Q E h => ?_) (fun cdv A outer s H vs Q E hr h => ?_)
  · obtain ⟨g, ns, es, x, d, rfl, _⟩ := h; rfl
  · obtain ⟨g, ns, es, x, d, rfl, G, o, k⟩ := h
    refine ⟨_, pss_one (ps_ret (pe_and (pe_call FJ hr rfl mJ kJ bJ .nil pass0 (pa_cons (pe_fld (pv 0) rfl) (pa_cons (pv 1) pa_nil))) (pe_one (pe_cmpR (op_inE hr.units) (pv 1) (pe_fld (pv 0) rfl) rfl)))), ?_⟩
    obtain ⟨⟨dx, t1, t2, g1, g2, g3⟩, ge⟩ := id G
    refine ⟨_, rfl, g, C, dx, _, _, rfl, g1, T.cl, T.nV, gf_v _ _, _, rfl, t1, ns, x, d, rfl, .inr (SqT.of g2), o, _, rfl, ?_⟩
    cases c : joB ns d with
    | false => rw [edB_no c] at k; exact iteF k
    | true =>
      obtain ⟨p, u, v, rfl, hp, rfl⟩ := jo_str o c
      refine iteT ⟨_, rfl, _, rfl, g, C, dx, _, _, rfl, g1, T.cl, T.nE, gf_e _ _, p, u, v, t2, es, rfl, rfl, hp, g3, ge, ?_⟩
      have e : edB ns (es.map (·.2)) (.tuple [.str u, .str v]) = decide ((u, v) ∈ es.map (·.2)) := by
        have c' : (decide (u ∈ ns) && (decide (v ∈ ns) && ltS u v)) = true := c
        show ((decide (u ∈ ns) && (decide (v ∈ ns) && ltS u v)) && decide ((u, v) ∈ es.map (·.2))) = _
        rw [c']; rfl
      rw [e] at k; exact k
end
end CP
namespace CP
open PySem L2
section
variable {P : Program} {w : World} {K : PySem.W.Frag} {mg : Str → Option Value} {base : Heap}
theorem scCarry : FnScope ["graph", "value", "edge", "vertex"] ["graph", "value"] (defScope sCarry) := ⟨rfl, rfl, rfl, by decide +kernel, rfl, by decide +kernel, by decide +kernel⟩
theorem caB_no {ns : List Str} {es : List E2} {d : PyData} (h : coupB d = false) : caB ns es d = false := by
  unfold caB; split
  · cases h
  · rfl
theorem caB_eq {ns : List Str} {es : List E2} {a b : PyData} : caB ns es (.tuple [a, b]) = (edB ns es a && (amB ns b && (match b with | .str z => offB a z | _ => false))) := by
  cases b <;> simp [caB, amB]
theorem ed_str {ns : List Str} {es : List E2} {H : Hp} {x : V} {d : PyData} (o : Od H x d) (h : edB ns es d = true) : ∃ (p : Addr) (u v : Str), x = .ref p ∧ H p = some (.tup [.str u, .str v]) ∧ d = .tuple [.str u, .str v] ∧ (u, v) ∈ es := by
  cases o with
  | @tup p xs ds hp al =>
    match ds, h, al with
    | [.str u, .str v], h, .cons oa (.cons ob .nil) =>
      cases oa; cases ob
      have h' : ((decide (u ∈ ns) && (decide (v ∈ ns) && ltS u v)) && decide ((u, v) ∈ es)) = true := h
      simp only [Bool.and_eq_true, decide_eq_true_eq] at h'
      exact ⟨p, u, v, rfl, hp, rfl, h'.2⟩
  | _ => cases h
theorem ok_carry {f fC fE fA C : Addr} {fd fdC fdE fdA : FuncData} (F : Fun K "is_carry" "is_carry" sCarry f fd) (T : GTxt K mg C)
    (mC : mg "is_couple" = some (.ref fC)) (FC : FnOk P w K mg base CX0 1 fC fdC ["value"] spCoupleG) (kC : PySem.W.keepIn K (.ref fC) = true) (bC : Binds K fdC ["value"] [])
    (mE : mg "is_edge" = some (.ref fE)) (FE : FnOk P w K mg base CX0 3 fE fdE ["graph", "value"] (spIsEdge C)) (kE : PySem.W.keepIn K (.ref fE) = true) (bE : Binds K fdE ["graph", "value"] [])
    (mA : mg "is_among" = some (.ref fA)) (FA : FnOk P w K mg base CX0 1 fA fdA ["vertices", "value"] (spAmongG K)) (kA : PySem.W.keepIn K (.ref fA) = true) (bA : Binds K fdA ["vertices", "value"] []) : FnOk P w K mg base CX0 4 f fd ["graph", "value"] (spCarry C) := by
  refine F.ok scCarry (fun vs H Q E h => ?_) (fun cdv A outer s H vs Q E hr h => ?_)
  · obtain ⟨g, ns, es, x, d, rfl, _⟩ := h; rfl
  · obtain ⟨g, ns, es, x, d, rfl, G, o, k⟩ := h
    have hr1 : Room 1 _ := hr.mono (by decide)
    refine ⟨_, pss_cons (ps_if (pt_not (pt_val (pe_call FC hr1 rfl mC kC bC .nil pass0 (pa_cons (pv 1) pa_nil)))) (pss_one (ps_ret pe_bl)) pss_nil)
      (pss_cons (ps_asg (pv 1) (pg_tup rfl (pgs_cons (pg_name (i := 2) scCarry.nd rfl (Or.inl rfl)) (pgs_cons (pg_name (i := 3) scCarry.nd rfl (Or.inl rfl)) pgs_nil))))
      (pss_one (ps_ret (pe_and (pe_call FE hr rfl mE kE bE .nil pass0 (pa_cons (pv 0) (pa_cons (pv 2) pa_nil))) (pe_and (pe_call FA hr1 rfl mA kA bA .nil pass0 (pa_cons (pe_fld (pv 0) rfl) (pa_cons (pv 3) pa_nil))) (pe_one (pe_cmpR op_notIn_seq (pv 3) (pv 2) rfl))))))), ?_⟩
    refine ⟨_, rfl, x, d, rfl, o, _, rfl, ?_⟩
    cases c : coupB d with
    | false => rw [caB_no c] at k; exact iteT k
    | true =>
      refine iteF ?_
      cases o with
      | @tup p xs ds hp al =>
        match ds, c, al, k with
        | [da, db], _, .cons (v := va) oa (.cons (v := vb) ob .nil), k =>
          refine ⟨_, rfl, p, _, rfl, SqT.of hp, rfl, _, _, rfl, _, _, rfl, rfl, ?_⟩
          rw [caB_eq] at k
          refine ⟨_, rfl, _, rfl, g, ns, es, va, da, rfl, G, oa, _, rfl, ?_⟩
          cases c1 : edB ns (es.map (·.2)) da with
          | false => rw [c1] at k; exact iteF k
          | true =>
            rw [c1] at k
            obtain ⟨⟨dx, t1, t2, g1, g2, g3⟩, ge⟩ := id G
            refine iteT ⟨_, rfl, g, C, dx, _, _, rfl, g1, T.cl, T.nV, gf_v _ _, _, rfl, t1, ns, vb, db, rfl, .inr (SqT.of g2), ob, _, rfl, ?_⟩
            cases c2 : amB ns db with
            | false => rw [c2] at k; exact iteF k
            | true =>
              rw [c2] at k
              obtain ⟨pe, u, v, rfl, hpe, rfl, _⟩ := ed_str oa c1
              obtain ⟨z, rfl, rfl, _⟩ := am_str ob c2
              refine iteT ⟨_, rfl, _, rfl, pe, _, rfl, .inr (SqT.of hpe), rfl, rfl, ?_⟩
              have e : offB (.tuple [.str u, .str v]) z = !inV (.str z) [.str u, .str v] := by
                have q : inV (.str z) [.str u, .str v] = decide (z ∈ [u, v]) := inV_txt z [u, v]
                rw [q]; show decide (z ∉ [u, v]) = _
                by_cases c : z ∈ [u, v]
                · rw [decide_eq_true c, decide_eq_false (fun n => n c)]; rfl
                · rw [decide_eq_false c, decide_eq_true c]; rfl
              have k' : Q (.bl (offB (.tuple [.str u, .str v]) z)) H := k
              rw [e] at k'; exact k'
      | _ => cases c
end
end CP
/-! Defs that show data (repr): the promise holds where no repr is running around the call. -/
namespace CP
open PySem PySem.Spec PyProof.Rows L2
structure FnG (P : Program) (w : World) (K : PySem.W.Frag) (mg : Str → Option Value) (base : Heap) (k : Nat) (f : Addr) (fd : FuncData) (ps : List Str) (sp : Sp) : Prop where
  len : ∀ vs H Q E, sp vs H Q E → vs.length = ps.length
  run : ∀ (A : Around) (outer : List Env) (s : Shared) (H : Hp) (args : Args) (us : List Value) (vs : List V) (Q : VK) (E : XK), Room k A → A.guards = some [] → Env0 P w K mg base A outer s H → BindsTo s fd args (ps.zip us) → Vals vs us → sp vs H Q E →
    codeAny (model P w) A (.call (.ref f) args) (CR CX0 outer P w H s Q E) s
section
variable {P : Program} {w : World} {K : PySem.W.Frag} {mg : Str → Option Value} {base : Heap}
theorem okG {x qual : Str} {st : Stmt} {f : Addr} {fd : FuncData} {N ps : List Str} {k : Nat} {sp : Sp} (F : Fun K x qual st f fd) (S : FnScope N ps (defScope st)) (len : ∀ vs H Q E, sp vs H Q E → vs.length = ps.length)
    (body : ∀ (cdv : Value) (A : Around) (outer : List Env) (s : Shared) (H : Hp) (vs : List V) (Q : VK) (E : XK), Room k (A.deeper (envOfC qual (defScope st) s.heap.objs.size f cdv)) → (A.deeper (envOfC qual (defScope st) s.heap.objs.size f cdv)).guards = some [] → sp vs H Q E →
      ∃ t, PSs (cxOf CX0 P w K mg base N qual (defScope st) f cdv A outer s H E).nox (defBody st) t ∧ t { nx := fun _ H' => Q .non H', rt := Q } (start N vs) H) : FnG P w K mg base (k + 1) f fd ps sp := by
  obtain ⟨oc, od, kV, doc, pm, an, cdv, ct, osl, rfl, lk, hcd⟩ := F.ex
  refine ⟨len, fun A outer s H args us vs Q E room gds env0 hb vals hsp => ?_⟩
  have up : ∀ b o, base.get? b = some o → s.heap.get? b = some o := fun b o e => (env0.bs b o e).1
  have KIn : K.In s.heap := env0.mod.kin.keeps up
  have kinds : ∀ y ∈ ps.zip us, (defScope st).names.lookup y.1 = some .local ∨ ((defScope st).names.lookup y.1 = some .cell ∧ ((cellsFrom (s.heap.objs.size + 1) (defScope st).names []).lookup y.1).isSome = true) := fun ⟨n, v⟩ hy =>
    (S.par n (List.of_mem_zip hy).1).elim .inl fun q => .inr ⟨q, PySem.W.cellsFrom_some _ _ _ (.inl q)⟩
  refine codeAny_call_function room.depth (KIn _ _ lk) rfl S.co S.gen rfl (PySem.W.codeRec_of KIn hcd) (hb _ _ _ _ (wpAny_newFunctionEnv_cells S.kind kinds fun env he s1 x => ?_))
  subst he
  refine ⟨(env0.mod.nolimit.keeps up).keeps x.toInCall.keep, codeAny_func ?_⟩
  obtain ⟨t, ht, hq⟩ := body cdv A outer s H vs Q E (room.deeper _) gds hsp
  have I : L2.Inv (cxOf CX0 P w K mg base N qual (defScope st) f cdv A outer s H E) [] (start N vs) H s1 := inv_start S room.hd env0 (len _ _ _ _ hsp) vals x
  refine wpAny_mono (ht.nox.run [] s1 (start N vs) H _ I hq) (fun fl s' hs => ?_) fun e s' hs => hs
  have done : ∀ {σ' : L2.St} {H' : Hp} {v : V} {u : Value}, L2.Inv (cxOf CX0 P w K mg base N qual (defScope st) f cdv A outer s H E) [] σ' H' s' → RelV v u → Q v H' → CE outer P w H s Q u s' := fun J rv q => ⟨_, _, J.os, J.bare, J.base, J.hok, rv, q⟩
  match fl, hs with
  | .ret u, ⟨v, σ', H', J, rv, q⟩ => exact done J rv q
  | .next, ⟨σ', H', J, q⟩ => exact done (v := V.non) (u := Value.none) J rfl q
  | .brk, ⟨_, _, _, q⟩ => exact q.elim
  | .cont, ⟨_, _, _, q⟩ => exact q.elim
end
section
variable {X : Cx} {x : Str} {p pos : Pos} {e : Expr} {es : List Expr} {t : TA} {k : Nat} {f : Addr} {fd : FuncData} {ps : List Str} {sp : Sp}
theorem pe_callG (F : FnG X.prog X.w X.K X.mg X.base k f fd ps sp) (hr : Room k X.A) (gds : X.A.guards = some []) (hg : Gl X x) (hm : X.mg x = some (.ref f)) (hk : PySem.W.keepIn X.K (.ref f) = true) (hb : Binds X.K fd ps []) (ha : PA X (e :: es) t)
    (hdb : (x == ("__debug__" : Str)) = false := by decide) (he : starEach (e :: es) X.env = (false, eval e X.env) :: starEach es X.env := by rfl) (hpl : (backTo pos (starEach es X.env)).any (·.1) = false := by rfl) : PE X (.Call (.Name x p) (e :: es) [] pos) (tCall sp [] E0 t) := by
  refine ⟨fun pins s σ H Q I h => wpAny_Call_Name_kw (ld_glob I hg hm ?_ hdb)⟩
  refine PySem.W.callWith_K (h₀ := X.base) I.ok.mod.kin hk (thn (ha.run pos pins s σ H _ I h) fun us s1 ⟨vs, H1, I1, r, q⟩ => ⟨I1.kIn, ?_⟩) he hpl
  have r2 : Vals (vs ++ []) (us ++ []) := r.append .nil
  have hl : (us ++ []).length = ps.length := by rw [← r2.length]; exact F.len _ _ _ _ q
  refine wpAny_call (codeAny_mono (F.run X.A X.stack s1 H1 ⟨us, []⟩ (us ++ []) (vs ++ []) Q E0 hr gds I1.env0 (hb s1 us I1.kIn hl) r2 q) fun res s' hq => ?_)
  match res, hq with
  | .error err, hq => exact (hq : False).elim
  | .ok (.ret u), hq => exact I1.after hq
  | .ok .next, hq => exact False.elim hq
  | .ok .brk, hq => exact False.elim hq
  | .ok .cont, hq => exact False.elim hq
/-- repr(x) of data that can be shown -/
def rReprD (K : PySem.W.Frag) : List V → Hp → VK → Prop := fun xs H Q => ∃ (a : Addr) (d : PyData), xs = [.ref a] ∧ Dp K H (.ref a) d ∧ d.showable = true ∧ d.hasDict = false ∧ d.depth ≤ 60 ∧ d.shown.length ≤ sizeLine ∧ Q (.str d.shown) H
theorem call_reprD (gds : X.A.guards = some []) (hu : X.A.units + 64 < cLine) : CallR X (.builtin "repr") (rReprD X.K) := by
  intro pins s σ H xs us Q I r h
  obtain ⟨a, d, rfl, hd, h1, h2, h3, h4, q⟩ := h
  rw [Vals.ref1 r]
  obtain ⟨as, rd⟩ := Dp.reads I d _ (Value.ref a) hd rfl
  exact repr_of_reads' rd h1 (fun z => by rw [h2] at z; cases z) gds (by omega) (fun _ _ z => z) (fun h' u tk hk => ⟨.str d.shown, H, I.kept (t' := tk) hk, ⟨_, rfl⟩, q⟩) h4
end
end CP
namespace CP
open PySem PySem.Spec PyProof.Rows L2
theorem callG {P : Program} {w : World} {K : PySem.W.Frag} {mg mb : Str → Option Value} {k : Nat} {fa a : Addr} {fd : FuncData} {x : Str} {sp : Sp} {s0 : Shared} {vs : List Value} {ns : List Int}
    (KX : K.In s0.heap) (n1 : s0.heap.Ns mainGlobals mg) (n2 : s0.heap.Ns builtinsNs mb) (n3 : ∀ x : Str, x ≠ "__name__" → mb x = bootBuiltins x) (lim : s0.heap.NoLimit) (gens : s0.gens = #[])
    (obj : s0.heap.get? a = some { cls := .type "list", data := .seq vs.toArray }) (hints : IntsAre vs ns) (few : ns.length ≤ sizeLine) (room : Room k callerA)
    (F : ∀ base : Heap, K.In base → base.Ns mainGlobals mg → FnG P w K mg base k fa fd [x] sp) (bind : ∀ (s : Shared) (u : Value), BindsTo s fd ⟨[u], []⟩ [(x, u)])
    (hsp : ∀ H : Hp, SqL K H a (ns.map V.int) → sp [.ref a] H (fun v _ => v = .bl true) fun _ _ _ => False) :
    codeAny (model P w) callerA (.call (.ref fa) ⟨[.ref a], []⟩) (fun r s' => r = .ok (.ret (.bool true)) ∧ OldK s0.heap s'.heap ∧ s'.os = s0.os ∧ AllBare s'.gens) s0 := by
  have rv := vals_ints hints
  have lenV := hints.length
  have core : ∀ H : Hp, (∀ b, H b = none ∨ ∃ ob xs, H b = some (.frz ob (.lst xs))) → SqL K H a (ns.map V.int) → HOk P w H s0.heap → (∀ b, H b ≠ none → b = a) → (H a ≠ none → K.lookup a = none) →
      codeAny (model P w) callerA (.call (.ref fa) ⟨[.ref a], []⟩) (fun r s' => r = .ok (.ret (.bool true)) ∧ OldK s0.heap s'.heap ∧ s'.os = s0.os ∧ AllBare s'.gens) s0 := by
    intro H only sq ok onlyA unk
    have noD : ∀ {b : Addr} {o : Obj} {es : Array DictEntry} {ep : Nat}, s0.heap.get? b = some o → o.data = .dict es ep → H b = none := fun {b o es ep} e d => by
      cases q : H b with
      | none => rfl
      | some u =>
        obtain rfl : b = a := onlyA b (by rw [q]; simp)
        rw [obj] at e; cases e; cases (show Data.seq vs.toArray _ = Data.dict es ep from d)
    have nsH : ∀ {b : Addr} {m : Str → Option Value}, s0.heap.Ns b m → (hidT s0.heap H).Ns b m := fun ⟨o, es, ep, e, d, r⟩ => ⟨o, es, ep, hidT_get e (noD e d), d, r⟩
    have kH : K.In (hidT s0.heap H) := fun b o e => hidT_get (KX b o e) (by
      cases q : H b with
      | none => rfl
      | some u =>
        obtain rfl : b = a := onlyA b (by rw [q]; simp)
        rw [unk (by rw [q]; simp)] at e; cases e)
    have md : Mod K mg (hidT s0.heap H) := ⟨kH, nsH n1, ⟨mb, nsH n2, n3⟩, let ⟨mc, h1, h2⟩ := lim; ⟨mc, nsH h1, h2⟩⟩
    have env0 : Env0 P w K mg (hidT s0.heap H) callerA [] s0 H := ⟨rfl, md, fun b o e => of_hidT e, Nat.le_of_eq (hidT_size _ _), trivial, fun b hb => absurd (show b ∈ ([] : List Addr) from hb) (by simp), ok, .of_eq gens⟩
    refine codeAny_mono ((F _ kH (nsH n1)).run callerA [] s0 H ⟨[.ref a], []⟩ [.ref a] [.ref a] _ _ room rfl env0 (bind s0 (.ref a)) (.cons rfl .nil) (hsp H sq)) fun r s' h => ?_
    match r, h with
    | .error e, h => exact (h : False).elim
    | .ok .next, h => exact False.elim h
    | .ok .brk, h => exact False.elim h
    | .ok .cont, h => exact False.elim h
    | .ok (.ret u), ⟨v, H', os, bare, un, ok', r', q⟩ =>
      obtain rfl : v = .bl true := q
      obtain rfl : u = Value.bool true := r'
      refine ⟨rfl, OldK.of_keep fun b o e => ?_, os, bare⟩
      rcases only b with q | ⟨ob, xs, q⟩
      · exact un.keep b o e q (fun z => absurd (show b ∈ ([] : List Addr) from z) (by simp)) (by simp)
      · obtain ⟨e1, _⟩ := ok b _ q
        obtain ⟨e2, _⟩ := ok' b _ (un.frzs b ob _ q)
        rw [e] at e1; cases e1; exact e2
  cases hk : K.lookup a with
  | some o =>
    have e := KX a o hk
    rw [obj] at e
    cases e
    exact core (fun _ => none) (fun _ => .inl rfl) (.inr ⟨_, vs.toArray, _, hk, rfl, rfl, rfl, by rw [List.size_toArray, lenV]; exact few, by simpa using rv⟩) (fun b u z => by cases (show (none : Option HO) = some u from z)) (fun b z => absurd rfl z) fun z => absurd rfl z
  | none =>
    refine core (fun b => if b = a then some (.frz { cls := .type "list", data := .seq vs.toArray } (.lst (ns.map V.int))) else none) (fun b => ?_) (.inl (.inr ⟨{ cls := .type "list", data := .seq vs.toArray }, if_pos rfl⟩)) (fun b u z => ?_) (fun b z => ?_) fun _ => hk
    all_goals by_cases hb : b = a
    · exact .inr ⟨_, _, if_pos hb⟩
    · exact .inl (if_neg hb)
    · have z' := (if_pos hb).symm.trans z
      cases z'; subst hb
      exact ⟨obj, by rw [List.length_map]; exact few, vs, _, rv, obj⟩
    · cases (if_neg hb).symm.trans z
    · exact hb
    · exact absurd (if_neg hb) z
theorem walkG {l : PySem.W.OpenLaw} {n k : Nat} {q : Program} {loose : List Str} {XP : (Str → Option Value) → Heap → Prop} {YP : World → Heap → Prop} {d : DefRec} {K : Params → PySem.W.Frag} {sp : PySem.W.Frag → Sp} {x : Str}
    (hn : l.most = some n) (hn2 : n ≤ sizeLine) (hdf : d.params.defaults = []) (room : Room k callerA) (hY : ∀ (w : World) (h : Heap), YP w h → (K w.params).In h)
    (F : ∀ (w : World) (mg : Str → Option Value) (fa : Addr) (h : Heap), (K w.params).In h → h.Ns mainGlobals mg → mg d.name = some (.ref fa) → ∃ fd : FuncData, (∀ (s : Shared) (u : Value), BindsTo s fd ⟨[u], []⟩ [(x, u)]) ∧
        ∀ base : Heap, (K w.params).In base → base.Ns mainGlobals mg → FnG l.prog w (K w.params) mg base k fa fd [x] (sp (K w.params)))
    (hsp : ∀ (K : PySem.W.Frag) (H : Hp) (a : Addr) (ns : List Int), ns.length ≤ n → SqL K H a (ns.map V.int) → sp K [.ref a] H (fun v _ => v = .bl true) fun _ _ _ => False) :
    PySem.W.WalkO q loose XP YP l.row.toRowW d [] (fun f vs => PySem.call f vs) := by
  refine Att.attach_call hn hdf fun w s0 s1 mg mb fa o pm cd doc a vs ns G Y ho hd hcd hmg hobj hints hlen hg => ?_
  have KX := hY w _ Y
  obtain ⟨fd, hb, hF⟩ := F w mg fa _ KX G.T.g hmg
  exact callG KX G.T.g G.T.b G.T.builtins G.T.nolimit hg hobj hints (Nat.le_trans hlen hn2) room hF hb fun H hS => hsp _ H a ns hlen hS
end CP
/-! Exceptions as values: made, kept, asked for their class, their fields read. -/
namespace CP
open PySem PySem.Spec PyProof.Rows L2
/-- an exception of a built-in class at a -/
def bxo (a : Addr) (T : String) : HO := .ext fun h => ∃ o, h.get? a = some o ∧ o.cls = .type T
theorem bxo_ok {P : Program} {w : World} {H : Hp} {h : Heap} {a : Addr} {T : String} {o : Obj} (e : h.get? a = some o) (c : o.cls = .type T) : ObjOk P w H h a (bxo a T) :=
  ⟨⟨o, e, c⟩, ⟨o, e⟩, fun _ _ ⟨o, q, r⟩ k => ⟨o, k o q, r⟩⟩
/-- what isinstance and the fields' reading want of the class -/
structure XCls (K : PySem.W.Frag) (C : Addr) : Prop where
  cl : (PySem.W.clsIn K C).isSome = true
  ga : PySem.W.findIn K (.ref C) "__getattribute__" = some (some (.builtin "BaseException.__getattribute__"))
  gg : PySem.W.findIn K (.ref C) "__getattr__" = some none
  sb : PySem.W.subIn K (.ref C) (.type "BaseException") = some true
  hd : PySem.W.hasDictIn K C = true
  ca : PySem.W.findIn K (.ref C) "__class__" = some (some (.builtin "object.__class__"))
  sg : PySem.W.specialIn K (.builtin "object.__class__") "__get__" = some (some (.builtin "getset_descriptor.__get__"))
  tk : PySem.W.takesIn K (.builtin "object.__class__") = some true
  mo : PySem.W.mroIn K C (.type "object") = some true
/-- an exception value: of an own class (with a field or without), or a ValueError -/
inductive TyE (K : PySem.W.Frag) (H : Hp) : V → Value → Prop where
  | plain {a C : Addr} (h : H a = some (exo a C none)) (T : XCls K C) : TyE K H (.ref a) (.ref C)
  | field {a C d : Addr} {fs : List (Str × V)} (h : H a = some (exo a C (some d))) (hd : H d = some (exd d fs)) (T : XCls K C) : TyE K H (.ref a) (.ref C)
  | blt {a : Addr} (h : H a = some (bxo a "ValueError")) : TyE K H (.ref a) (.type "ValueError")
section
variable {X : Cx} {pins : List (Addr × Obj)} {σ : L2.St} {H : Hp} {s : Shared}
theorem exd_get {P : Program} {w : World} {h : Heap} {dx : Addr} {fs : List (Str × V)} (ok : HOk P w H h) (he : H dx = some (exd dx fs)) : ∃ o, h.get? dx = some o := by
  obtain ⟨mA, ⟨o, _, _, e, _⟩, _⟩ := exd_at ok he
  exact ⟨o, e⟩
def rIsiE (K : PySem.W.Frag) : List V → Hp → VK → Prop := fun xs H Q => ∃ (x c : V) (t u : Value) (b : Bool), xs = [x, c] ∧ ClsV c u ∧ TyE K H x t ∧ PySem.W.kitOne K t u = some b ∧ Q (.bl b) H
theorem call_isiE : CallR X (.builtin "isinstance") (rIsiE X.K) := by
  intro pins s σ H xs us Q I r h
  obtain ⟨x, c, t, u, b, rfl, k, ty, e, q⟩ := h
  obtain ⟨u1, u2, rfl, r1, r2⟩ := vals2 r
  have e2 := k.eq r2
  subst e2
  cases ty with
  | @plain a C h T =>
    cases (show u1 = Value.ref a from r1)
    obtain ⟨t1, ho⟩ := exo_at I.hok h
    exact PySem.W.kia_one (PySem.W.kitx_exc (od := none) T.cl T.ga T.gg T.sb T.ca T.sg T.tk T.mo) I.kIn ⟨ho, rfl, rfl, trivial⟩ e (fun z => nomatch z) fun tk => ⟨.bl b, H, I.tok tk, rfl, q⟩
  | @field a C d fs h hd T =>
    cases (show u1 = Value.ref a from r1)
    obtain ⟨t1, ho⟩ := exo_at I.hok h
    obtain ⟨oD, hoD⟩ := exd_get I.hok hd
    exact PySem.W.kia_one (PySem.W.kitx_exc (od := some oD) T.cl T.ga T.gg T.sb T.ca T.sg T.tk T.mo) I.kIn ⟨ho, rfl, rfl, hoD⟩ e (fun z => nomatch z) fun tk => ⟨.bl b, H, I.tok tk, rfl, q⟩
  | @blt a h =>
    cases (show u1 = Value.ref a from r1)
    obtain ⟨o, ho, hc⟩ := (I.hok a _ h).1
    exact PySem.W.kia_one (PySem.W.kitx_bexc PySem.F.excAttr_ValueError PySem.F.lkClass_ValueError PySem.F.soClass_ValueError (by decide)) I.kIn ⟨o, ho, hc⟩ e (fun z => nomatch z) fun tk => ⟨.bl b, H, I.tok tk, rfl, q⟩
/-- e.f, e such a value -/
def tFldE (K : PySem.W.Frag) (f : Str) (te : TE) : TE := fun σ H Q => te σ H fun x H1 => ∃ (a C d : Addr) (fs : List (Str × V)) (v : V), x = .ref a ∧ H1 a = some (exo a C (some d)) ∧ H1 d = some (exd d fs) ∧ XCls K C ∧ PySem.W.findIn K (.ref C) f = some none ∧ fs.lookup f = some v ∧ Q v H1
theorem pe_fldE {e : Expr} {te : TE} {pos : Pos} {n : Str} (he : PE X e te) (hb : attributeBase e n X.env (eval e X.env) = eval e X.env := by rfl) : PE X (.Attribute e n pos) (tFldE X.K n te) := by
  refine ⟨fun pins s σ H Q I h => attr_of hb (thn (he.run pins s σ H _ I h) fun u s1 ⟨x, H1, I1, rx, a, C, d, fs, v, ex, ha, hd, T, no, l, q⟩ => ?_)⟩
  subst ex
  obtain rfl : u = Value.ref a := rx
  obtain ⟨t1, ho⟩ := exo_at I1.hok ha
  obtain ⟨mA, hns, hr⟩ := exd_at I1.hok hd
  obtain ⟨od, ho2, hl⟩ := lookIn_ns hns
  obtain ⟨u, hu, ru⟩ := RelO.some_of (v := v) (o := mA n) (by rw [← l]; exact hr n)
  exact HandSPX.exc_get I1.kIn ⟨ho, rfl, rfl, ho2⟩ T.ga T.gg T.sb (PySem.W.findObj_own T.hd no rfl (by rw [hl, hu])) (handed_of ru) ⟨v, H1, I1.tok _, ru, q⟩
/-- a new object at an address that the heap has not -/
theorem laid_new {h' : Heap} {a : Addr} {o : HO} {t' : Nat} (I : L2.Inv X pins σ H s) (k : ∀ b u, s.heap.get? b = some u → h'.get? b = some u) (new : s.heap.get? a = none) (hn : H a = none) (ok : ObjOk X.prog X.w (L2.upd H a o) h' a o) : L2.Inv X pins σ (L2.upd H a o) { s with heap := h', toks := t' } := by
  refine I.un ⟨fun b u q _ _ _ => k b u q, fun b u q _ _ _ => ⟨u.slots, k b u q⟩, fun b u q n _ => ?_, fun b u q _ => ⟨u, k b u q⟩, fun b xs q => ?_, fun b u xs q => ?_, fun b ps q => ⟨#[], ?_⟩⟩ fun b u e => ?_
  · rw [upd_ne (fun z => by rw [z, new] at q; cases q)]; exact n
  · rw [upd_ne (ne_of_none q hn)]; exact q
  · rw [upd_ne (ne_of_none q hn)]; exact q
  · rw [upd_ne (ne_of_none q hn), q]; simp
  · by_cases hb : b = a
    · subst hb; rw [upd_same] at e; cases e; exact ok
    · rw [upd_ne hb] at e
      exact (I.hok b u e).stay (fun c v _ q => k c v q) (fun c q => by rw [upd_ne (ne_of_none q hn)]; exact q) fun c xs q => by rw [upd_ne (ne_of_none q hn)]; exact q
/-- ValueError('x') -/
theorem pe_bexc {m : Str} {j : Nat} {p p2 pos : Pos} (hg : Gl X "ValueError") (hm : X.mg "ValueError" = none) : PE X (.Call (.Name "ValueError" p) [.Constant (.str m) j p2] [] pos) (fun _ H Q => ∀ a, H a = none → Q (.ref a) (L2.upd H a (bxo a "ValueError"))) := by
  refine ⟨fun pins s σ H Q I h => wpAny_Call_Name_kw (ld_blt I hg hm boot_ValueError ?_ (by decide) (by decide))⟩
  refine PyProof.Rows.callWith_type1 (thn ((pa_cons (pe_str (x := m) (j := j) (pos := p2)) pa_nil).run pos pins s σ H (fun vs H1 => H1 = H ∧ vs.length = 1) I ⟨rfl, rfl⟩) fun us s1 ⟨vs, H1, I1, r1, eH, l1⟩ => ?_) rfl rfl
  subst eH
  obtain ⟨hp1, g1, d1, tk1, os1⟩ := s1
  refine wpAny_call_exc exb_ValueError.call (fun h' a mk => ?_) (by rw [← r1.length, l1, sizeLine_eq]; omega)
  have hn := I1.hok.gone mk.new
  obtain ⟨t, ht, _⟩ := mk.there
  exact ⟨.ref a, _, laid_new (t' := tk1) I1 mk.keeps mk.new hn (bxo_ok ht rfl), rfl, h a hn⟩
/-- C(), an own class without own __init__ -/
theorem pe_exc0 {C : Addr} {bmB : List Value} {B newId initId : String} {x : Str} {p pos : Pos} (F : ExcBaseFacts B newId initId bmB) (q : PySem.W.excIn X.K C bmB newId = true) (gC : X.mg x = some (.ref C)) (kC : PySem.W.keepIn X.K (.ref C) = true) (hg : Gl X x)
    (hdb : (x == ("__debug__" : Str)) = false := by decide) : PE X (.Call (.Name x p) [] [] pos) (fun _ H Q => ∀ a, H a = none → Q (.ref a) (L2.upd H a (exo a C none))) := by
  refine ⟨fun pins s σ H Q I h => wpAny_Call_Name_kw (ld_glob I hg gC (PySem.W.callWith_K0 I.kIn kC ?_) hdb)⟩
  obtain ⟨bm, N, nm, qn, bs, hdct, sn, sub, ab, col, dd, k0, k1, k2, k3, k5, mN, hC, hN, hni, T⟩ := exc_obj I.kIn q
  refine wpAny_call_exc_subT F T hC hN hni (fun h' a mk => ?_) (Nat.zero_le _)
  have hn := I.hok.gone mk.new
  obtain ⟨t, ht, _⟩ := mk.there
  exact ⟨.ref a, _, laid_new (t' := s.toks) I mk.keeps mk.new hn (exo_ok ht), rfl, h a hn⟩
/-- C(e), C's own __init__ keeping sp, as a value -/
def tMkV (C : Addr) (sp : Sp) (ta : TA) : TE := fun σ H Q => ta σ H fun vs H1 => vs.length ≤ 1000 ∧ ∀ a, H1 a = none → sp (.ref a :: vs) (L2.upd H1 a (exo a C none)) (fun v H2 => v = .non ∧ Q (.ref a) H2) E0
theorem pe_excI {e : Expr} {es : List Expr} {ta : TA} {x : Str} {C fI : Addr} {k : Nat} {fd : FuncData} {ps : List Str} {sp : Sp} {p pos : Pos} (T : OexC X.K C) (iC : PySem.W.findIn X.K (.ref C) "__init__" = some (some (.ref fI))) (tI : PySem.W.typeIn X.K (.ref fI) = some (.type "function"))
    (F1 : FnOk X.prog X.w X.K X.mg X.base CX0 k fI fd ps sp) (hr : Room (k + 1) X.A) (hb : Binds X.K fd ps []) (hg : Gl X x) (hm : X.mg x = some (.ref C)) (ha : PA X (e :: es) ta)
    (hdb : (x == ("__debug__" : Str)) = false := by decide) (he : starEach (e :: es) X.env = (false, eval e X.env) :: starEach es X.env := by rfl) (hpl : (backTo pos (starEach es X.env)).any (·.1) = false := by rfl) : PE X (.Call (.Name x p) (e :: es) [] pos) (tMkV C sp ta) := by
  obtain ⟨nm, q, N, bs, bm, sn, sub, ab, col, dd, k0, k1, k2, k3, k5, hC, hbm⟩ := T.cls
  refine ⟨fun pins s σ H Q I h => wpAny_Call_Name_kw (ld_glob I hg hm ?_ hdb)⟩
  refine PySem.W.callWith_K (h₀ := X.base) I.ok.mod.kin T.kC (thn (ha.run pos pins s σ H _ I h) fun us s1 ⟨vs, H1, I1, r1, hz, q1⟩ => ⟨I1.kIn, ?_⟩) he hpl
  show wpAny _ _ (call (.ref C) us) _ _ _
  obtain ⟨hp, g, dr, tk, os⟩ := s1
  have below : hp.objs.size ≤ hp.objs.size + 1 := Nat.le_succ _
  have fresh : H1 (hp.objs.size + 1) = none := I1.hok.fresh below
  have want := q1 (hp.objs.size + 1) fresh
  generalize hh2 : (hp.push (PySem.W.kdv_tup us)).push (PySem.HandSPX.excO C hp.objs.size) = hp2
  have keep : ∀ b o, hp.get? b = some o → hp2.get? b = some o := fun b o e => by rw [← hh2]; exact Heap.get?_push_of_some _ (Heap.get?_push_of_some _ e)
  have got : hp2.get? (hp.objs.size + 1) = some (PySem.HandSPX.excO C hp.objs.size) := by rw [← hh2]; heap_get
  have I2 : L2.Inv X pins σ (L2.upd H1 (hp.objs.size + 1) (exo (hp.objs.size + 1) C none)) ⟨hp2, g, dr, tk, os⟩ := I1.laid (t' := tk) (h' := hp2) keep below (exo_ok got)
  have r2 : Vals (V.ref (hp.objs.size + 1) :: vs) (Value.ref (hp.objs.size + 1) :: us) := .cons rfl r1
  have hl : (Value.ref (hp.objs.size + 1) :: us ++ []).length = ps.length := by
    rw [List.append_nil, ← r2.length]; exact F1.len _ _ _ _ want
  have few : us.length ≤ sizeLine := by rw [← Paired.length r1, sizeLine_eq]; omega
  have bnd := hb ⟨hp2, g, dr, tk, os⟩ (Value.ref (hp.objs.size + 1) :: us) I2.kIn hl
  rw [List.append_nil] at bnd
  refine wpAny_call (PySem.HandSPX.call_own F.excBase_ValueError (fun Y => PySem.HandSPX.refsVE_contains Y bm hbm) (I1.kIn _ _ hC) (PySem.W.looks_findIn I1.kIn iC) (fun self => PySem.W.bind_fn I1.kIn self tI) few ?_)
  rw [hh2]
  refine codeAny_mono (F1.run _ X.stack _ _ ⟨Value.ref (hp.objs.size + 1) :: us, []⟩ (Value.ref (hp.objs.size + 1) :: us) _ _ E0 (hr.make C us []) (I2.env0.make C us []) bnd r2 want) fun r s' hq => ?_
  match r, hq with
  | .error er, hq => exact (hq : False).elim
  | .ok .next, hq => exact False.elim hq
  | .ok .brk, hq => exact False.elim hq
  | .ok .cont, hq => exact False.elim hq
  | .ok (.ret u), ⟨v, H2, os2, bare2, un2, hok2, rv, ev, q2⟩ =>
    subst ev
    exact ⟨rv, .ref (hp.objs.size + 1), H2, I2.call' (ch := []) os2 un2 hok2 bare2 (fun b z => absurd z (by simp)), rfl, q2⟩
end
end CP
/-! flips_of: the pairs that a carry flips -/
namespace CP
open PySem L2
abbrev sFlips0 : Stmt := top 23
abbrev sFlipped : Stmt := top 24
abbrev sI2 : Stmt := inClass (top 4) 0
def spXI (C : Addr) : Str → Sp := fun f vs H Q _ => ∃ (a : Addr) (v : V), vs = [.ref a, v] ∧ H a = some (exo a C none) ∧ ∀ d, H d = none → d ≠ a → Q .non (L2.upd (L2.upd H d (exd d [(f, v)])) a (exo a C (some d)))
/-- what is asked to raise C(v) -/
theorem mk_raise {C a : Addr} {f : Str} {H1 : Hp} {v : V} {R : XK} (ha : H1 a = none) (k : ∀ d H2, H1 d = none → H2 d = some (.xd [(f, v)]) → Same H1 H2 → R (.ref C) (some d) H2) :
    spXI C f [.ref a, v] (L2.upd H1 a (exo a C none)) (fun v H2 => v = .non ∧ ∃ (d : Addr) (fs : List (Str × V)), H2 a = some (exo a C (some d)) ∧ H2 d = some (exd d fs) ∧ H1 d = none ∧ R (.ref C) (some d) (L2.upd (del H2 a) d (.xd fs))) E0 := by
  refine ⟨a, v, rfl, upd_same, fun d hd hda => ?_⟩
  have hd' : H1 d = none := by rw [upd_ne hda] at hd; exact hd
  refine ⟨rfl, d, _, upd_same, by rw [upd_ne hda, upd_same], hd', k d _ hd' upd_same fun b o e => ?_⟩
  rw [upd_ne (ne_of_none e hd'), del_ne (ne_of_none e ha), upd_ne (ne_of_none e ha), upd_ne (ne_of_none e hd'), upd_ne (ne_of_none e ha)]; exact e
/-! ### the pairs that a carry flips, as values -/
def ordP (e f : E2) : E2 × E2 := if ltE e f = true then (e, f) else (f, e)
def hitB (e : E2) (z : Str) (f : E2) : Bool := decide (z ∈ [f.1, f.2]) && apB e f
def flipsV (es : List E2) (e : E2) (z : Str) : List (E2 × E2) := (es.filter (hitB e z)).map (ordP e)
theorem ap_ne {e f : E2} (h : apB e f = true) : e ≠ f := fun z => by
  subst z
  have := of_decide_eq_true h
  exact this.1 rfl
theorem sort_two {p q : Ed} (h : p.2 ≠ q.2) : sortE [p, q] = if ltE p.2 q.2 = true then [p, q] else [q, p] := by
  have nd : ([p, q].map (·.2)).Nodup := by simp [h]
  have lt := sortE_lt nd
  have pm := sortE_perm [p, q]
  by_cases c : ltE p.2 q.2 = true
  · rw [if_pos c]; exact asc_unique pm lt (by simp [c])
  · rw [if_neg c]
    have c' : ltE q.2 p.2 = true := ltE_total h (by simpa using c)
    exact asc_unique (pm.trans (List.Perm.swap _ _ _)) lt (by simp [c'])
theorem ordP_inj {e f g : E2} (hf : e ≠ f) (hg : e ≠ g) (h : ordP e f = ordP e g) : f = g := by
  unfold ordP at h
  by_cases c1 : ltE e f = true <;> by_cases c2 : ltE e g = true
  · rw [if_pos c1, if_pos c2] at h; injection h
  · rw [if_pos c1, if_neg c2] at h; injection h with h1 h2; exact absurd h1 hg
  · rw [if_neg c1, if_pos c2] at h; injection h with h1 h2; exact absurd h1.symm hf
  · rw [if_neg c1, if_neg c2] at h; injection h
theorem flips_nd {es : List E2} {e : E2} {z : Str} (nd : es.Nodup) : (flipsV es e z).Nodup := by
  unfold flipsV
  rw [List.nodup_iff_pairwise_ne, List.pairwise_map]
  have h1 : (es.filter (hitB e z)).Pairwise (fun f g => f ≠ g) := List.nodup_iff_pairwise_ne.mp (nd.filter _)
  refine List.Pairwise.imp_of_mem (fun {f g} hf hg n q => ?_) h1
  have af : apB e f = true := by have := (List.mem_filter.mp hf).2; unfold hitB at this; simp only [Bool.and_eq_true] at this; exact this.2
  have ag : apB e g = true := by have := (List.mem_filter.mp hg).2; unfold hitB at this; simp only [Bool.and_eq_true] at this; exact this.2
  exact n (ordP_inj (ap_ne af) (ap_ne ag) q)
theorem flips_perm {es fs : List E2} {e : E2} {z : Str} (h : es.Perm fs) : (flipsV es e z).Perm (flipsV fs e z) := (h.filter _).map _
theorem ltS_trans {x y z : Str} (h : ltS x y = true) (h2 : ltS y z = true) : ltS x z = true := by
  unfold ltS at *
  exact decide_eq_true (List.lt_trans (of_decide_eq_true h) (of_decide_eq_true h2))
theorem ltE_trans {e f g : E2} (h : ltE e f = true) (h2 : ltE f g = true) : ltE e g = true := by
  unfold ltE at *
  by_cases a : e.1 = f.1
  · rw [if_pos a] at h
    by_cases b : f.1 = g.1
    · rw [if_pos b] at h2; rw [if_pos (a.trans b)]
      by_cases c : e.2 = f.2
      · rw [if_pos c] at h; cases h
      · rw [if_neg c] at h
        by_cases d : f.2 = g.2
        · rw [if_pos d] at h2; cases h2
        · rw [if_neg d] at h2
          have t := ltS_trans h h2
          rw [if_neg (fun z => by rw [z, ltS_irrefl] at t; cases t)]; exact t
    · rw [if_neg b] at h2; rw [if_neg (by rw [a]; exact b), a]; exact h2
  · rw [if_neg a] at h
    by_cases b : f.1 = g.1
    · rw [if_pos b] at h2; rw [if_neg (by rw [← b]; exact a), ← b]; exact h
    · rw [if_neg b] at h2
      have t := ltS_trans h h2
      rw [if_neg (fun z => by rw [z, ltS_irrefl] at t; cases t)]; exact t
/-- the edges ascend, so what a carry flips ascends -/
theorem flips_asc {es : List E2} {e : E2} {z : Str} (hs : es.Pairwise (fun e f => ltE e f = true)) : (flipsV es e z).Pairwise (fun p q => ltP p q = true) := by
  unfold flipsV
  rw [List.pairwise_map]
  refine List.Pairwise.imp_of_mem (fun {f g} hf hg lt => ?_) (hs.filter _)
  have af : e ≠ f := ap_ne (by have := (List.mem_filter.mp hf).2; unfold hitB at this; simp only [Bool.and_eq_true] at this; exact this.2)
  have ag : e ≠ g := ap_ne (by have := (List.mem_filter.mp hg).2; unfold hitB at this; simp only [Bool.and_eq_true] at this; exact this.2)
  have nfg : f ≠ g := fun q => by rw [q, ltE_irrefl] at lt; cases lt
  unfold ordP ltP
  by_cases c1 : ltE e f = true
  · have c2 : ltE e g = true := ltE_trans c1 lt
    rw [if_pos c1, if_pos c2]
    dsimp only
    rw [if_pos rfl, if_neg nfg]; exact lt
  · rw [if_neg c1]
    have c1' : ltE f e = true := ltE_total af (by simpa using c1)
    by_cases c2 : ltE e g = true
    · rw [if_pos c2]; dsimp only
      rw [if_neg fun q => af q.symm]; exact c1'
    · rw [if_neg c2]; dsimp only
      rw [if_neg nfg]; exact lt
/-- flips_of(graph, carry) -/
def spFlips0 (C : Addr) : Sp := fun vs H Q _ => ∃ (g : Addr) (ns : List Str) (es : List Ed) (p q : Addr) (u v z : Str), vs = [.ref g, .ref q] ∧ GrAt C H g ns es ∧ es.length < 1000 ∧ H q = some (.tup [.ref p, .str z]) ∧ H p = some (.tup [.str u, .str v]) ∧
  ∀ l H', H l = none → PrsAt H' l (flipsV (es.map (·.2)) (u, v) z) → Same H H' → Q (.ref l) H'
/-- flipped(graph, carry) -/
def spFlipped (C Cn : Addr) : Sp := fun vs H Q E => ∃ (g : Addr) (ns : List Str) (es : List Ed) (x : V) (d : PyData), vs = [.ref g, x] ∧ GrAt C H g ns es ∧ es.length < 1000 ∧ (es.map (·.2)).Pairwise (fun e f => ltE e f = true) ∧ Od H x d ∧
  (caB ns (es.map (·.2)) d = false → ∀ dd H', H dd = none → H' dd = some (.xd [("at", .int 0)]) → Same H H' → E (.ref Cn) (some dd) H') ∧
  (∀ (u v z : Str), d = .tuple [.tuple [.str u, .str v], .str z] → caB ns (es.map (·.2)) d = true → ∀ l ps H', H l = none → PrsAt H' l ps → ps.Perm (flipsV (es.map (·.2)) (u, v) z) → ps.Pairwise (fun p q => ltP p q = true) → Same H H' → Q (.ref l) H')
theorem ca_str {ns : List Str} {es : List E2} {H : Hp} {x : V} {d : PyData} (o : Od H x d) (h : caB ns es d = true) : ∃ (p q : Addr) (u v z : Str), x = .ref q ∧ H q = some (.tup [.ref p, .str z]) ∧ H p = some (.tup [.str u, .str v]) ∧ d = .tuple [.tuple [.str u, .str v], .str z] ∧ (u, v) ∈ es := by
  cases o with
  | @tup q xs ds hq al =>
    match ds, h, al with
    | [da, .str z], h, .cons oa (.cons ob .nil) =>
      have h' : (edB ns es da && (decide (z ∈ ns) && offB da z)) = true := h
      simp only [Bool.and_eq_true] at h'
      obtain ⟨p, u, v, rfl, hp, rfl, m⟩ := ed_str oa h'.1
      cases ob
      exact ⟨p, q, u, v, z, rfl, hq, hp, rfl, m⟩
  | _ => cases h
section
variable {P : Program} {w : World} {K : PySem.W.Frag} {mg : Str → Option Value} {base : Heap}
theorem scI2 : FnScope ["self", "at"] ["self", "at"] (defScope sI2) := ⟨rfl, rfl, rfl, by decide +kernel, rfl, by decide +kernel, by decide +kernel⟩
theorem ok_I2 {f C : Addr} {fd : FuncData} (F : Fun K "__init__" "NoCarry.__init__" sI2 f fd) (T : OexC K C) (no : PySem.W.findIn K (.ref C) "at" = some none) : FnOk P w K mg base CX0 1 f fd ["self", "at"] (spXI C "at") := by
  refine F.ok scI2 (fun vs H Q E h => ?_) (fun cdv A outer s H vs Q E hr h => ?_)
  · obtain ⟨a, v, rfl, _⟩ := h; rfl
  · obtain ⟨a, v, rfl, ha, k⟩ := h
    exact ⟨_, pss_one (ps_ost (pv 0) (pv 1)), _, rfl, _, rfl, a, C, rfl, T, no, .inl ⟨ha, k⟩⟩
abbrev nFlips0 : List Str := ["graph", "carry", "edge", "vertex", "crossed", "other"]
theorem scFlips0 : FnScope nFlips0 ["graph", "carry"] (defScope sFlips0) := ⟨rfl, rfl, rfl, by decide +kernel, rfl, by decide +kernel, by decide +kernel⟩
theorem op_in2 {X : Cx} (K : PySem.W.Frag) (h : X.K = K) : OpR X (compareOp .In) (rIn K false) := h ▸ op_in_seq
theorem ok_flips0 {f fA C : Addr} {fd fdA : FuncData} (F : Fun K "flips_of" "flips_of" sFlips0 f fd) (T : GTxt K mg C)
    (mA : mg "are_apart" = some (.ref fA)) (FA : FnOk P w K mg base CX0 1 fA fdA ["one", "other"] spApart) (kA : PySem.W.keepIn K (.ref fA) = true) (bA : Binds K fdA ["one", "other"] []) :
    FnOk P w K mg base CX0 2 f fd ["graph", "carry"] (spFlips0 C) := by
  refine F.ok scFlips0 (fun vs H Q E h => ?_) (fun cdv A outer s H vs Q E hr h => ?_)
  · obtain ⟨g, ns, es, p, q, u, v, z, rfl, _⟩ := h; rfl
  · obtain ⟨g, ns, es, p, q, u, v, z, rfl, G, few, hq, hp, kQ⟩ := h
    have hr1 : Room 1 _ := hr.mono (by decide)
    refine ⟨_, pss_cons (ps_asg (pv 1) (pg_tup rfl (pgs_cons (pg_name (i := 2) scFlips0.nd rfl (Or.inr rfl)) (pgs_cons (pg_name (i := 3) scFlips0.nd rfl (Or.inr rfl)) pgs_nil))))
      (pss_cons (ps_setLc (i := 4) (own := [("other", 5)]) (g := gName 5) rfl scFlips0.nd rfl rfl (sw_true rfl rfl rfl (by decide +kernel)) (pi_tup (pe_fld (pv 0) rfl))
          (blkOk_by (own := [("other", 5)]) (N := nFlips0) (sc := defScope sFlips0) (by decide +kernel))
          (fun _ _ _ _ _ => pg_name (i := 5) scFlips0.nd rfl (Or.inl rfl)) (fun _ _ _ _ _ => pts_one (PW.pt (pw_and (pt_cmpR (op_in2 K rfl) (pv 3) (pv 5) rfl) (pw_and1 (pt_val (pe_call FA hr1 rfl mA kA bA .nil pass0 (pa_cons (pv 2) (pa_cons (pv 5) pa_nil)))))))) (fun _ _ _ _ _ => pv 5))
      (pss_one (ps_ret (pe_lc (own := [("other", 5)]) (g := gName 5) (tt := tYes) rfl scFlips0.nd (pi_list (pv 4))
          (blkOk_by (own := [("other", 5)]) (N := nFlips0) (sc := defScope sFlips0) (by decide +kernel))
          (fun _ _ _ _ _ => pg_name (i := 5) scFlips0.nd rfl (Or.inl rfl)) (fun _ _ _ _ _ => pts_nil)
          (fun _ _ _ _ _ => pe_ifExp (pt_cmpR (op_ltE hr.units) (pv 5) (pv 2) (nomark _)) (pe_tup (pa_cons (pv 5) (pa_cons (pv 2) pa_nil))) (pe_tup (pa_cons (pv 2) (pa_cons (pv 5) pa_nil)))))))), ?_⟩
    refine ⟨_, rfl, q, _, rfl, SqT.of hq, rfl, _, _, rfl, _, _, rfl, rfl, ?_⟩
    obtain ⟨⟨dx, t1, t2, g1, g2, g3⟩, ge⟩ := id G
    refine ⟨_, rfl, g, C, dx, _, _, rfl, g1, T.cl, T.nE, gf_e _ _, t2, rfl, ⟨_, SqT.of g3⟩, fun D hD => lc_it (walk_tup (K := K) (a := t2) (xs := es.map fun p => V.ref p.1))
      (fun i H' => Same H H' ∧ H' D = some (.lst (((es.take i).filter fun f => hitB (u, v) z f.2).map fun p => V.ref p.1))) ⟨Same.new hD, upd_same⟩ (fun i H' _ ⟨s, _⟩ => SqT.of (s _ _ g3)) ?_ ?_⟩
    · rintro i y H1 H2 hi ⟨s1, e1⟩ ⟨rfl, hy⟩
      rw [List.length_map] at hi
      rw [List.getElem?_map, List.getElem?_eq_getElem hi] at hy
      obtain rfl : V.ref es[i].1 = y := Option.some.inj hy
      have ei : EdAt H2 es[i] := s1 _ _ (ge _ (List.getElem_mem hi))
      have tk : es.take (i + 1) = es.take i ++ [es[i]] := take_one (List.getElem?_eq_getElem hi)
      have two : inV (.str z) [.str es[i].2.1, .str es[i].2.2] = decide (z ∈ [es[i].2.1, es[i].2.2]) := inV_txt z [es[i].2.1, es[i].2.2]
      have hno : hitB (u, v) z es[i].2 = false → H2 D = some (.lst (((es.take (i + 1)).filter fun f => hitB (u, v) z f.2).map fun p => V.ref p.1)) := fun n => by
        rw [tk, List.filter_append]
        have q : [es[i]].filter (fun f => hitB (u, v) z f.2) = [] := by simp [n]
        rw [q, List.append_nil]; exact e1
      refine ⟨rfl, _, rfl, _, rfl, es[i].1, _, rfl, .inr (SqT.of ei), rfl, rfl, _, rfl, ?_⟩
      show if inV (.str z) [.str es[i].2.1, .str es[i].2.2] = true then _ else _
      rw [two]
      cases c1 : decide (z ∈ [es[i].2.1, es[i].2.2]) with
      | false =>
        refine iteF (iteF ⟨s1, hno ?_⟩)
        unfold hitB; rw [c1]; rfl
      | true =>
        refine iteT ⟨_, rfl, _, rfl, p, es[i].1, u, v, es[i].2.1, es[i].2.2, rfl, s1 _ _ hp, ei, _, rfl, ?_⟩
        show if apB (u, v) es[i].2 = true then _ else _
        cases c2 : apB (u, v) es[i].2 with
        | false =>
          refine iteF ⟨s1, hno ?_⟩
          unfold hitB; rw [c2, Bool.and_false]
        | true =>
          refine iteT ⟨_, rfl, _, e1, ?_, Same.grow hD s1, ?_⟩
          · rw [List.length_map, sizeLine_eq]
            have := List.length_filter_le (fun f : Ed => hitB (u, v) z f.2) (es.take i)
            rw [List.length_take] at this; omega
          · rw [upd_same, tk, List.filter_append]
            have q : [es[i]].filter (fun f => hitB (u, v) z f.2) = [es[i]] := by
              have n : hitB (u, v) z es[i].2 = true := by unfold hitB; rw [c1, c2]; rfl
              simp [n]
            rw [q, List.map_append]; rfl
    · rintro H1 ⟨s1, e1⟩
      rw [List.length_map, List.take_length] at e1
      have cv : ((es.filter fun f => hitB (u, v) z f.2).map fun f => ordP (u, v) f.2) = flipsV (es.map (·.2)) (u, v) z := by
        unfold flipsV; rw [List.filter_map, List.map_map]; rfl
      have clen : (es.filter fun f => hitB (u, v) z f.2).length < 1000 := Nat.lt_of_le_of_lt (List.length_filter_le _ _) few
      have cin : ∀ f ∈ (es.filter fun f => hitB (u, v) z f.2), f ∈ es ∧ hitB (u, v) z f.2 = true := fun f hf => List.mem_filter.mp hf
      generalize (es.filter fun f => hitB (u, v) z f.2) = cs at e1 cv clen cin
      refine ⟨_, rfl, D, rfl, ⟨_, SqL.of e1⟩, fun D2 hD2 => lc_list (K := K) (a := D) (xs := cs.map fun p => V.ref p.1) (fun j H' => Same H1 H' ∧ PrsAt H' D2 ((cs.take j).map fun f => ordP (u, v) f.2))
        ⟨Same.new hD2, PrsAt.nil upd_same⟩ (fun j H' _ ⟨s, _⟩ => SqL.of (s _ _ e1)) ?_ ?_⟩
      · rintro j y H2 hj ⟨s2, R2⟩
        have lj : j < cs.length := by have := (List.getElem?_eq_some_iff.mp hj).1; rw [List.length_map] at this; exact this
        rw [List.getElem?_map, List.getElem?_eq_getElem lj] at hj
        obtain rfl : V.ref cs[j].1 = y := Option.some.inj hj
        obtain ⟨m1, m2⟩ := cin _ (List.getElem_mem lj)
        have tk : cs.take (j + 1) = cs.take j ++ [cs[j]] := take_one (List.getElem?_eq_getElem lj)
        have s02 := s1.trans s2
        have ec : EdAt H2 cs[j] := s02 _ _ (ge _ m1)
        have ep : EdAt H2 (p, (u, v)) := s02 _ _ hp
        have ne : (u, v) ≠ cs[j].2 := ap_ne (by unfold hitB at m2; simp only [Bool.and_eq_true] at m2; exact m2.2)
        refine ⟨rfl, _, rfl, _, rfl, cs[j], (p, (u, v)), rfl, rfl, ec, ep, _, rfl, ?_⟩
        by_cases cl : ltE (u, v) cs[j].2 = true
        · have cl' : ltE cs[j].2 (u, v) = false := ltE_asymm cl
          rw [cl']
          refine iteF ⟨_, rfl, _, rfl, by show 2 ≤ sizeLine; decide, fun t ht => ?_⟩
          have s25 : Same H2 (L2.upd H2 t (.tup [.ref p, .ref cs[j].1])) := Same.new (by exact ht)
          obtain ⟨zs, z1, z2, z3⟩ := (R2.kept s25).push (t := t) (p := (p, (u, v))) (q := cs[j]) upd_same (s25 _ _ ep) (s25 _ _ ec)
          refine ⟨zs, z1, by rw [z2, List.length_map, List.length_take, sizeLine_eq]; omega, Same.grow hD2 (s2.trans s25), ?_⟩
          rw [tk, List.map_append]
          have q : [cs[j]].map (fun f => ordP (u, v) f.2) = [((u, v), cs[j].2)] := by simp [ordP, cl]
          rw [q]; exact z3
        · have cl' : ltE cs[j].2 (u, v) = true := ltE_total ne (by simpa using cl)
          rw [cl']
          refine iteT ⟨_, rfl, _, rfl, by show 2 ≤ sizeLine; decide, fun t ht => ?_⟩
          have s25 : Same H2 (L2.upd H2 t (.tup [.ref cs[j].1, .ref p])) := Same.new (by exact ht)
          obtain ⟨zs, z1, z2, z3⟩ := (R2.kept s25).push (t := t) (p := cs[j]) (q := (p, (u, v))) upd_same (s25 _ _ ec) (s25 _ _ ep)
          refine ⟨zs, z1, by rw [z2, List.length_map, List.length_take, sizeLine_eq]; omega, Same.grow hD2 (s2.trans s25), ?_⟩
          rw [tk, List.map_append]
          have q : [cs[j]].map (fun f => ordP (u, v) f.2) = [(cs[j].2, (u, v))] := by simp [ordP, cl]
          rw [q]; exact z3
      · rintro H2 ⟨s2, R2⟩
        rw [List.length_map, List.take_length, cv] at R2
        exact kQ D2 H2 (s1.free hD2) R2 (s1.trans s2)
theorem scFlipped : FnScope ["graph", "carry"] ["graph", "carry"] (defScope sFlipped) := ⟨rfl, rfl, rfl, by decide +kernel, rfl, by decide +kernel, by decide +kernel⟩
theorem ok_flipped {f fC fF fI C Cn : Addr} {fd fdC fdF fdI : FuncData} (F : Fun K "flipped" "flipped" sFlipped f fd)
    (mC : mg "is_carry" = some (.ref fC)) (FC : FnOk P w K mg base CX0 4 fC fdC ["graph", "value"] (spCarry C)) (kC : PySem.W.keepIn K (.ref fC) = true) (bC : Binds K fdC ["graph", "value"] [])
    (mF : mg "flips_of" = some (.ref fF)) (FF : FnOk P w K mg base CX0 2 fF fdF ["graph", "carry"] (spFlips0 C)) (kF : PySem.W.keepIn K (.ref fF) = true) (bF : Binds K fdF ["graph", "carry"] [])
    (mN : mg "NoCarry" = some (.ref Cn)) (TN : OexC K Cn) (iN : PySem.W.findIn K (.ref Cn) "__init__" = some (some (.ref fI))) (tN : PySem.W.typeIn K (.ref fI) = some (.type "function")) (GI : FnOk P w K mg base CX0 1 fI fdI ["self", "at"] (spXI Cn "at")) (bI : Binds K fdI ["self", "at"] []) :
    FnOk P w K mg base (L2.CX P w) 5 f fd ["graph", "carry"] (spFlipped C Cn) := by
  refine F.okX scFlipped (fun vs H Q E h => ?_) (fun cdv A outer s H vs Q E hr h => ?_)
  · obtain ⟨g, ns, es, x, d, rfl, _⟩ := h; rfl
  · obtain ⟨g, ns, es, x, d, rfl, G, few, asc, o, kE, kQ⟩ := h
    have hr2 : Room 2 _ := hr.mono (by decide)
    refine ⟨_, pss_cons (ps_if (pt_not (pt_val (pe_call FC hr rfl mC kC bC .nil pass0 (pa_cons (pv 0) (pa_cons (pv 1) pa_nil))))) (pss_one (ps_raise rfl (takes_of rfl rfl rfl rfl) (pmk_oex TN iN tN GI hr2 bI .nil pass0 rfl mN (pa_cons pe_int pa_nil)))) pss_nil)
      (pss_one (ps_ret (pe_call FF hr2 rfl mF kF bF .nil pass0 (pa_cons (pv 0) (pa_cons (pv 1) pa_nil))))), ?_⟩
    refine ⟨_, rfl, _, rfl, g, ns, es, x, d, rfl, G, o, _, rfl, ?_⟩
    cases c : caB ns (es.map (·.2)) d with
    | false => exact iteT ⟨by show 1 ≤ 1000; decide, fun a ha => mk_raise ha fun dd H' h1 h2 h3 => kE c dd H' h1 h2 h3⟩
    | true =>
      obtain ⟨p, q, u, v, z, rfl, hq, hp, rfl, mem⟩ := ca_str o c
      exact iteF ⟨_, rfl, _, rfl, g, ns, es, p, q, u, v, z, rfl, G, few, hq, hp, fun l H' h1 h2 h3 => kQ u v z rfl c l _ H' h1 h2 (List.Perm.refl _) (flips_asc asc) h3⟩
end
end CP
/-! the law's own flips -/
namespace CP
open PySem L2
abbrev sFlips : Stmt := top 31
def spFlips : Sp := fun vs H Q _ => ∃ (b p : Addr) (ks : List Ed) (u v z : Str), vs = [.ref b, .ref p, .str z] ∧ H b = some (.lst (ks.map fun p => V.ref p.1)) ∧ (∀ q ∈ ks, EdAt H q) ∧ ks.length < 1000 ∧ H p = some (.tup [.str u, .str v]) ∧
  ∀ l H', H l = none → PrsAt H' l (flipsV (ks.map (·.2)) (u, v) z) → Same H H' → Q (.ref l) H'
theorem ap_other (e f : E2) : (!decide (f.1 ∈ [e.1, e.2]) && !decide (f.2 ∈ [e.1, e.2])) = apB e f := by
  unfold apB
  by_cases c1 : f.1 ∈ [e.1, e.2]
  · rw [decide_eq_true c1]
    refine (decide_eq_false fun ⟨h1, _, h3, _⟩ => ?_).symm
    simp only [List.mem_cons, List.not_mem_nil, or_false] at c1
    rcases c1 with c | c
    · exact h1 c.symm
    · exact h3 c.symm
  · rw [decide_eq_false c1]
    by_cases c2 : f.2 ∈ [e.1, e.2]
    · rw [decide_eq_true c2]
      refine (decide_eq_false fun ⟨_, h2, _, h4⟩ => ?_).symm
      simp only [List.mem_cons, List.not_mem_nil, or_false] at c2
      rcases c2 with c | c
      · exact h2 c.symm
      · exact h4 c.symm
    · rw [decide_eq_false c2]
      simp only [List.mem_cons, List.not_mem_nil, or_false, not_or] at c1 c2
      exact (decide_eq_true ⟨fun q => c1.1 q.symm, fun q => c2.1 q.symm, fun q => c1.2 q.symm, fun q => c2.2 q.symm⟩).symm
section
variable {P : Program} {w : World} {K : PySem.W.Frag} {mg : Str → Option Value} {base : Heap}
theorem ix_tup2 {X : Cx} (K : PySem.W.Frag) (h : X.K = K) : IxR X (rIxT K) := h ▸ ix_tup
theorem op_notIn2 {X : Cx} (K : PySem.W.Frag) (h : X.K = K) : OpR X (compareOp .NotIn) (rIn K true) := h ▸ op_notIn_seq
theorem scFlips : FnScope ["_law_edges", "_law_edge", "_law_vertex", "_law_partners", "_law_other"] ["_law_edges", "_law_edge", "_law_vertex"] (defScope sFlips) := ⟨rfl, rfl, rfl, by decide +kernel, rfl, by decide +kernel, by decide +kernel⟩
theorem ok_flips {f : Addr} {fd : FuncData} (F : Fun K "_law_flips" "_law_flips" sFlips f fd) (mmin : mg "min" = none) (mmax : mg "max" = none) : FnOk P w K mg base CX0 1 f fd ["_law_edges", "_law_edge", "_law_vertex"] spFlips := by
  refine F.ok scFlips (fun vs H Q E h => ?_) (fun cdv A outer s H vs Q E hr h => ?_)
  · obtain ⟨b, p, ks, u, v, z, rfl, _⟩ := h; rfl
  · obtain ⟨b, p, es, u, v, z, rfl, hb, ge, few, hp, k⟩ := h
    refine ⟨_, pss_cons (ps_setLc (i := 3) (own := [("_law_other", 4)]) (g := gName 4) rfl scFlips.nd rfl rfl (sw_true rfl rfl rfl (by decide +kernel)) (pi_list (pv 0))
          (blkOk_by (own := [("_law_other", 4)]) (N := ["_law_edges", "_law_edge", "_law_vertex", "_law_partners", "_law_other"]) (sc := defScope sFlips) (by decide +kernel))
          (fun _ _ _ _ _ => pg_name (i := 4) scFlips.nd rfl (Or.inl rfl)) (fun _ _ _ _ _ => pts_one (PW.pt (pw_and (pt_cmpR (op_in2 K rfl) (pv 2) (pv 4) rfl) (pw_and (pt_cmpR (op_notIn2 K rfl) (pe_ix (ix_tup2 K rfl) (pv 4) pe_int (fun _ _ => rfl)) (pv 1) rfl) (pw_and1 (pt_cmpR (op_notIn2 K rfl) (pe_ix (ix_tup2 K rfl) (pv 4) pe_int (fun _ _ => rfl)) (pv 1) rfl)))))) (fun _ _ _ _ _ => pv 4))
      (pss_one (ps_ret (pe_lc (own := [("_law_other", 4)]) (g := gName 4) (tt := tYes) rfl scFlips.nd (pi_list (pv 3))
          (blkOk_by (own := [("_law_other", 4)]) (N := ["_law_edges", "_law_edge", "_law_vertex", "_law_partners", "_law_other"]) (sc := defScope sFlips) (by decide +kernel))
          (fun _ _ _ _ _ => pg_name (i := 4) scFlips.nd rfl (Or.inl rfl)) (fun _ _ _ _ _ => pts_nil)
          (fun _ _ _ _ _ => pe_tup (pa_cons (pe_callB (call_minE rfl hr.units) (by rfl) mmin (by decide +kernel) (pa_cons (pv 1) (pa_cons (pv 4) pa_nil))) (pa_cons (pe_callB (call_maxE rfl hr.units) (by rfl) mmax (by decide +kernel) (pa_cons (pv 1) (pa_cons (pv 4) pa_nil))) pa_nil)))))), ?_⟩
    refine ⟨_, rfl, b, rfl, ⟨_, SqL.of hb⟩, fun D hD => lc_list (K := K) (a := b) (xs := es.map fun p => V.ref p.1)
        (fun i H' => Same H H' ∧ H' D = some (.lst (((es.take i).filter fun f => hitB (u, v) z f.2).map fun p => V.ref p.1))) ⟨Same.new hD, upd_same⟩ (fun i H' _ ⟨s, _⟩ => SqL.of (s _ _ hb)) ?_ ?_⟩
    · rintro i y H2 hi ⟨s1, e1⟩
      have li : i < es.length := by have := (List.getElem?_eq_some_iff.mp hi).1; rw [List.length_map] at this; exact this
      rw [List.getElem?_map, List.getElem?_eq_getElem li] at hi
      obtain rfl : V.ref es[i].1 = y := Option.some.inj hi
      have ei : EdAt H2 es[i] := s1 _ _ (ge _ (List.getElem_mem li))
      have ep : H2 p = some (.tup [.str u, .str v]) := s1 _ _ hp
      have tk : es.take (i + 1) = es.take i ++ [es[i]] := take_one (List.getElem?_eq_getElem li)
      have two : inV (.str z) [.str es[i].2.1, .str es[i].2.2] = decide (z ∈ [es[i].2.1, es[i].2.2]) := inV_txt z [es[i].2.1, es[i].2.2]
      have two' : ∀ y : Str, inV (.str y) [.str u, .str v] = decide (y ∈ [u, v]) := fun y => inV_txt y [u, v]
      have ap := ap_other (u, v) es[i].2
      have hno : hitB (u, v) z es[i].2 = false → H2 D = some (.lst (((es.take (i + 1)).filter fun f => hitB (u, v) z f.2).map fun p => V.ref p.1)) := fun n => by
        rw [tk, List.filter_append]
        have q : [es[i]].filter (fun f => hitB (u, v) z f.2) = [] := by simp [n]
        rw [q, List.append_nil]; exact e1
      refine ⟨rfl, _, rfl, _, rfl, es[i].1, _, rfl, .inr (SqT.of ei), rfl, rfl, _, rfl, ?_⟩
      show if inV (.str z) [.str es[i].2.1, .str es[i].2.2] = true then _ else _
      rw [two]
      cases c1 : decide (z ∈ [es[i].2.1, es[i].2.2]) with
      | false =>
        refine iteF (iteF ⟨s1, hno ?_⟩)
        unfold hitB; rw [c1]; rfl
      | true =>
        refine iteT ⟨_, rfl, es[i].1, _, _, _, rfl, rfl, SqT.of ei, (atI_nat (j := 0) rfl), _, rfl, p, _, rfl, .inr (SqT.of ep), rfl, rfl, _, rfl, ?_⟩
        show if (!inV (.str es[i].2.1) [.str u, .str v]) = true then _ else _
        rw [two']
        cases c2 : decide (es[i].2.1 ∈ [u, v]) with
        | true =>
          refine iteF (iteF ⟨s1, hno ?_⟩)
          unfold hitB; rw [← ap]; show (_ && (!decide (es[i].2.1 ∈ [u, v]) && _)) = false; rw [c2]; simp
        | false =>
          refine iteT ⟨_, rfl, es[i].1, _, _, _, rfl, rfl, SqT.of ei, (atI_nat (j := 1) rfl), _, rfl, p, _, rfl, .inr (SqT.of ep), rfl, rfl, _, rfl, ?_⟩
          show if (!inV (.str es[i].2.2) [.str u, .str v]) = true then _ else _
          rw [two']
          cases c3 : decide (es[i].2.2 ∈ [u, v]) with
          | true =>
            refine iteF ⟨s1, hno ?_⟩
            unfold hitB; rw [← ap]; show (_ && (_ && !decide (es[i].2.2 ∈ [u, v]))) = false; rw [c3]; simp
          | false =>
            refine iteT ⟨_, rfl, _, e1, ?_, Same.grow hD s1, ?_⟩
            · rw [List.length_map, sizeLine_eq]
              have := List.length_filter_le (fun f : Ed => hitB (u, v) z f.2) (es.take i)
              rw [List.length_take] at this; omega
            · rw [upd_same, tk, List.filter_append]
              have q : [es[i]].filter (fun f => hitB (u, v) z f.2) = [es[i]] := by
                have n : hitB (u, v) z es[i].2 = true := by
                  unfold hitB; rw [← ap]; show (decide (z ∈ [es[i].2.1, es[i].2.2]) && (!decide (es[i].2.1 ∈ [u, v]) && !decide (es[i].2.2 ∈ [u, v]))) = true
                  rw [c1, c2, c3]; rfl
                simp [n]
              rw [q, List.map_append]; rfl
    · rintro H1 ⟨s1, e1⟩
      rw [List.length_map, List.take_length] at e1
      have cv : ((es.filter fun f => hitB (u, v) z f.2).map fun f => ordP (u, v) f.2) = flipsV (es.map (·.2)) (u, v) z := by
        unfold flipsV; rw [List.filter_map, List.map_map]; rfl
      have clen : (es.filter fun f => hitB (u, v) z f.2).length < 1000 := Nat.lt_of_le_of_lt (List.length_filter_le _ _) few
      have cin : ∀ f ∈ (es.filter fun f => hitB (u, v) z f.2), f ∈ es ∧ hitB (u, v) z f.2 = true := fun f hf => List.mem_filter.mp hf
      generalize (es.filter fun f => hitB (u, v) z f.2) = cs at e1 cv clen cin
      refine ⟨_, rfl, D, rfl, ⟨_, SqL.of e1⟩, fun D2 hD2 => lc_list (K := K) (a := D) (xs := cs.map fun p => V.ref p.1) (fun j H' => Same H1 H' ∧ PrsAt H' D2 ((cs.take j).map fun f => ordP (u, v) f.2))
        ⟨Same.new hD2, PrsAt.nil upd_same⟩ (fun j H' _ ⟨s, _⟩ => SqL.of (s _ _ e1)) ?_ ?_⟩
      · rintro j y H2 hj ⟨s2, R2⟩
        have lj : j < cs.length := by have := (List.getElem?_eq_some_iff.mp hj).1; rw [List.length_map] at this; exact this
        rw [List.getElem?_map, List.getElem?_eq_getElem lj] at hj
        obtain rfl : V.ref cs[j].1 = y := Option.some.inj hj
        obtain ⟨m1, m2⟩ := cin _ (List.getElem_mem lj)
        have tk : cs.take (j + 1) = cs.take j ++ [cs[j]] := take_one (List.getElem?_eq_getElem lj)
        have s02 := s1.trans s2
        have ec : EdAt H2 cs[j] := s02 _ _ (ge _ m1)
        have ep : EdAt H2 (p, (u, v)) := s02 _ _ hp
        have ne : (u, v) ≠ cs[j].2 := ap_ne (by unfold hitB at m2; simp only [Bool.and_eq_true] at m2; exact m2.2)
        refine ⟨rfl, _, rfl, _, rfl, (p, (u, v)), cs[j], rfl, ep, ec, _, rfl, _, rfl, (p, (u, v)), cs[j], rfl, ep, ec, by show 2 ≤ sizeLine; decide, fun t ht => ?_⟩
        by_cases cl : ltE (u, v) cs[j].2 = true
        · have cl' : ¬ ltE cs[j].2 (u, v) = true := by rw [ltE_asymm cl]; simp
          have e1' : (if ltE cs[j].2 (u, v) = true then cs[j].1 else p) = p := if_neg cl'
          have e2' : (if ltE (u, v) cs[j].2 = true then cs[j].1 else p) = cs[j].1 := if_pos cl
          show ∃ acc, _
          rw [e1', e2']
          have s25 : Same H2 (L2.upd H2 t (.tup [.ref p, .ref cs[j].1])) := Same.new (by exact ht)
          obtain ⟨zs, z1, z2, z3⟩ := (R2.kept s25).push (t := t) (p := (p, (u, v))) (q := cs[j]) upd_same (s25 _ _ ep) (s25 _ _ ec)
          refine ⟨zs, z1, by rw [z2, List.length_map, List.length_take, sizeLine_eq]; omega, Same.grow hD2 (s2.trans s25), ?_⟩
          rw [tk, List.map_append]
          have q : [cs[j]].map (fun f => ordP (u, v) f.2) = [((u, v), cs[j].2)] := by simp [ordP, cl]
          rw [q]; exact z3
        · have cl' : ltE cs[j].2 (u, v) = true := ltE_total ne (by simpa using cl)
          have e1' : (if ltE cs[j].2 (u, v) = true then cs[j].1 else p) = cs[j].1 := if_pos cl'
          have e2' : (if ltE (u, v) cs[j].2 = true then cs[j].1 else p) = p := if_neg cl
          show ∃ acc, _
          rw [e1', e2']
          have s25 : Same H2 (L2.upd H2 t (.tup [.ref cs[j].1, .ref p])) := Same.new (by exact ht)
          obtain ⟨zs, z1, z2, z3⟩ := (R2.kept s25).push (t := t) (p := cs[j]) (q := (p, (u, v))) upd_same (s25 _ _ ec) (s25 _ _ ep)
          refine ⟨zs, z1, by rw [z2, List.length_map, List.length_take, sizeLine_eq]; omega, Same.grow hD2 (s2.trans s25), ?_⟩
          rw [tk, List.map_append]
          have q : [cs[j]].map (fun f => ordP (u, v) f.2) = [(cs[j].2, (u, v))] := by simp [ordP, cl]
          rw [q]; exact z3
      · rintro H2 ⟨s2, R2⟩
        rw [List.length_map, List.take_length, cv] at R2
        exact k D2 H2 (s1.free hD2) R2 (s1.trans s2)
end
end CP
/-! the law's own list of carries -/
namespace CP
open PySem L2
abbrev sCarries : Stmt := top 32
/-- at c a carry of these edges and names -/
structure CrAt (ks : List Ed) (ns : List Str) (H : Hp) (c : Addr) : Prop where
  ex : ∃ (p : Ed) (z : Str), H c = some (.tup [.ref p.1, .str z]) ∧ EdAt H p ∧ p ∈ ks ∧ z ∈ ns ∧ z ∉ [p.2.1, p.2.2]
theorem CrAt.same {ks : List Ed} {ns : List Str} {H H' : Hp} {c : Addr} (s : Same H H') (h : CrAt ks ns H c) : CrAt ks ns H' c := by
  obtain ⟨p, z, a, b, r⟩ := h.ex; exact ⟨p, z, s _ _ a, s _ _ b, r⟩
theorem CrAt.keepL {ks : List Ed} {ns : List Str} {H : Hp} {c l : Addr} {xs : List V} {o : HO} (hl : H l = some (.lst xs)) (h : CrAt ks ns H c) : CrAt ks ns (L2.upd H l o) c := by
  obtain ⟨p, z, a, b, r⟩ := h.ex
  exact ⟨p, z, by rw [upd_ne (ne_of a hl (fun z => by cases z))]; exact a, b.keepL hl, r⟩
/-- at l a list of such carries -/
def CrsAt (ks : List Ed) (ns : List Str) (H : Hp) (l : Addr) (n : Nat) : Prop := ∃ cs : List Addr, H l = some (.lst (cs.map V.ref)) ∧ cs.length ≤ n ∧ ∀ c ∈ cs, CrAt ks ns H c
theorem CrsAt.same {ks : List Ed} {ns : List Str} {H H' : Hp} {l : Addr} {n : Nat} (s : Same H H') (h : CrsAt ks ns H l n) : CrsAt ks ns H' l n := by
  obtain ⟨cs, a, b, c⟩ := h; exact ⟨cs, s _ _ a, b, fun x hx => (c x hx).same s⟩
def spCarries (K : PySem.W.Frag) : Sp := fun vs H Q _ => ∃ (a b : Addr) (ns : List Str) (ks : List Ed), vs = [.ref a, .ref b] ∧ H a = some (.lst (ns.map V.str)) ∧ ns.length ≤ 8 ∧ H b = some (.lst (ks.map fun p => V.ref p.1)) ∧ (∀ p ∈ ks, EdAt H p) ∧ ks.length ≤ 18 ∧
  ∀ l H', H l = none → CrsAt ks ns H' l 200 → Same H H' → Q (.ref l) H'
section
variable {P : Program} {w : World} {K : PySem.W.Frag} {mg : Str → Option Value} {base : Heap}
theorem scCarries : FnScope ["_law_names", "_law_edges", "_law_found", "_law_edge", "_law_vertex"] ["_law_names", "_law_edges"] (defScope sCarries) := ⟨rfl, rfl, rfl, by decide +kernel, rfl, by decide +kernel, by decide +kernel⟩
theorem ok_carries {f : Addr} {fd : FuncData} (F : Fun K "_law_carries" "_law_carries" sCarries f fd) (ms : mg "sorted" = none) : FnOk P w K mg base CX0 1 f fd ["_law_names", "_law_edges"] (spCarries K) := by
  refine F.ok scCarries (fun vs H Q E h => ?_) (fun cdv A outer s H vs Q E hr h => ?_)
  · obtain ⟨a, b, ns, ks, rfl, _⟩ := h; rfl
  · obtain ⟨a, b, ns, ks, rfl, ha, n8, hb, ge, k18, k⟩ := h
    refine ⟨_, pss_cons (ps_set (i := 2) scCarries.nd rfl (Or.inl rfl) (pe_lst pa_nil))
      (pss_cons (ps_for PassesOwn.never rfl (pi_list (pe_callB (cr_sortE hr.units) (by rfl) ms (by decide +kernel) (pa_cons (pv 1) pa_nil))) (pg_name (i := 3) scCarries.nd rfl (Or.inr rfl))
        (pss_one (ps_expr (pe_bm PySem.F.plainAttrs_list PySem.F.slot_list_extend PySem.F.type_list_extend mt_extend (pv 2) (pa_cons (pe_lc (own := [("_law_vertex", 4)]) (g := gName 4) rfl scCarries.nd (pi_list (pe_callB cr_sortedS (by rfl) ms (by decide +kernel) (pa_cons (pv 0) pa_nil)))
          (blkOk_by (own := [("_law_vertex", 4)]) (N := ["_law_names", "_law_edges", "_law_found", "_law_edge", "_law_vertex"]) (sc := defScope sCarries) (by decide +kernel))
          (fun _ _ _ _ _ => pg_name (i := 4) scCarries.nd rfl (Or.inl rfl)) (fun _ _ _ _ _ => pts_one (pt_cmpR (op_notIn2 K rfl) (pv 4) (pv 3) rfl)) (fun _ _ _ _ _ => pe_tup (pa_cons (pv 3) (pa_cons (pv 4) pa_nil)))) pa_nil)))))
      (pss_one (ps_ret (pv 2)))), ?_⟩
    refine ⟨by show 0 ≤ sizeLine; decide, fun l hl => ?_⟩
    have s0 : Same H (L2.upd H l (.lst [])) := Same.new hl
    generalize hS : sortE ks = S
    have pS : S.Perm ks := by rw [← hS]; exact sortE_perm ks
    have Sl : S.length ≤ 18 := by rw [pS.length_eq]; exact k18
    refine ⟨_, rfl, b, ks, rfl, s0 _ _ hb, fun p hp => s0 _ _ (ge p hp), by omega, fun sl hsl => ?_⟩
    rw [hS]
    have s1 : Same H (L2.upd (L2.upd H l (.lst [])) sl (.lst (S.map fun p => V.ref p.1))) := s0.trans (Same.new hsl)
    refine ⟨sl, rfl, ⟨_, SqL.of upd_same⟩, for_list (K := K) (a := sl) (xs := S.map fun p => V.ref p.1) (fun i σ H' => ∃ v3, σ = [some (.ref a), some (.ref b), some (.ref l), v3, none] ∧ Same H H' ∧ H' sl = some (.lst (S.map fun p => V.ref p.1)) ∧ CrsAt ks ns H' l (i * 8))
      ⟨_, rfl, s1, upd_same, [], by rw [upd_ne (ne_of_none upd_same hsl)]; exact upd_same, Nat.zero_le _, (fun _ z => nomatch z)⟩ (fun i σ H' _ ⟨_, _, _, q, _⟩ => SqL.of q) ?_ ?_⟩
    · rintro i x σ H2 hi ⟨v3, rfl, s2, q2, R2⟩
      have li : i < S.length := by have := (List.getElem?_eq_some_iff.mp hi).1; rw [List.length_map] at this; exact this
      rw [List.getElem?_map, List.getElem?_eq_getElem li] at hi
      obtain rfl : V.ref S[i].1 = x := Option.some.inj hi
      have mi : S[i] ∈ ks := pS.mem_iff.mp (List.getElem_mem li)
      generalize S[i] = p at mi
      obtain ⟨cs, r1, r2, r3⟩ := id R2
      refine ⟨_, rfl, .inl ⟨rfl, _, SqL.of r1⟩, _, rfl, a, ns, rfl, SqL.of (s2 _ _ ha), by omega, fun ys q pm _ hq => ?_⟩
      have s3 : Same H2 (L2.upd H2 q (.lst (ys.map V.str))) := Same.new hq
      have q3 : (L2.upd H2 q (.lst (ys.map V.str))) q = some (.lst (ys.map V.str)) := upd_same
      generalize L2.upd H2 q (.lst (ys.map V.str)) = H3 at s3 q3
      have s03 := s2.trans s3
      refine ⟨q, rfl, ⟨_, SqL.of q3⟩, fun D hD => lc_list (K := K) (a := q) (xs := ys.map V.str) (fun j H' => Same H3 H' ∧ CrsAt ks ns H' D j)
        ⟨Same.new hD, [], upd_same, Nat.zero_le _, (fun _ z => nomatch z)⟩ (fun j H' _ ⟨s, _⟩ => SqL.of (s _ _ q3)) ?_ ?_⟩
      · rintro j y H4 hj ⟨s4, R4⟩
        have lj : j < ys.length := by have := (List.getElem?_eq_some_iff.mp hj).1; rw [List.length_map] at this; exact this
        have l8 : ys.length ≤ 8 := by rw [pm.length_eq]; exact n8
        rw [List.getElem?_map, List.getElem?_eq_getElem lj] at hj
        obtain rfl : V.str ys[j] = y := Option.some.inj hj
        have mj : ys[j] ∈ ns := pm.mem_iff.mp (List.getElem_mem lj)
        have ep : EdAt H4 p := (s03.trans s4) _ _ (ge p mi)
        have two : inV (.str ys[j]) [.str p.2.1, .str p.2.2] = decide (ys[j] ∈ [p.2.1, p.2.2]) := inV_txt ys[j] [p.2.1, p.2.2]
        obtain ⟨ds, d1, d2, d3⟩ := R4
        refine ⟨rfl, _, rfl, _, rfl, p.1, _, rfl, .inr (SqT.of ep), rfl, rfl, _, rfl, ?_⟩
        show if (!inV (.str ys[j]) [.str p.2.1, .str p.2.2]) = true then _ else _
        rw [two]
        by_cases c1 : ys[j] ∈ [p.2.1, p.2.2]
        · rw [decide_eq_true c1]
          exact iteF ⟨s4, ds, d1, by omega, d3⟩
        · rw [decide_eq_false c1]
          refine iteT ⟨_, rfl, _, rfl, by show 2 ≤ sizeLine; decide, fun t ht => ?_⟩
          have s5 : Same H4 (L2.upd H4 t (.tup [.ref p.1, .str ys[j]])) := Same.new ht
          have ct : CrAt ks ns (L2.upd H4 t (.tup [.ref p.1, .str ys[j]])) t := ⟨p, ys[j], upd_same, s5 _ _ ep, mi, mj, c1⟩
          refine ⟨_, s5 _ _ d1, by rw [List.length_map, sizeLine_eq]; omega, Same.grow hD (s4.trans s5), ds ++ [t], by rw [upd_same, List.map_append]; rfl, by rw [List.length_append]; show _ + 1 ≤ _; omega, fun c hc => ?_⟩
          rcases List.mem_append.mp hc with h | h
          · exact ((d3 c h).same s5).keepL (s5 _ _ d1)
          · cases List.mem_singleton.mp h; exact ct.keepL (s5 _ _ d1)
      · rintro H4 ⟨s4, ds, d1, d2, d3⟩
        rw [List.length_map] at d2
        have l8 : ys.length ≤ 8 := by rw [pm.length_eq]; exact n8
        have s24 := s3.trans s4
        have r1' := s24 _ _ r1
        refine ⟨l, D, _, _, rfl, rfl, r1', d1, by rw [List.length_map, List.length_map, sizeLine_eq]; omega, _, rfl, Same.grow hl (s2.trans s24), ?_, cs ++ ds, by rw [upd_same, List.map_append], by rw [List.length_append]; omega, fun c hc => ?_⟩
        · rw [upd_ne (fun z => by rw [z] at hsl; rw [upd_same] at hsl; cases hsl)]; exact s24 _ _ q2
        · rcases List.mem_append.mp hc with h | h
          · exact ((r3 c h).same s24).keepL r1'
          · exact (d3 c h).keepL r1'
    · rintro σ H2 ⟨v3, rfl, s2, _, cs, r1, r2, r3⟩
      rw [List.length_map] at r2
      exact ⟨_, rfl, k l H2 hl ⟨cs, r1, by omega, r3⟩ s2⟩
end
end CP
/-! _law_refused: flipped raises NoCarry(0) -/
namespace CP
open PySem PySem.Spec PyProof.Rows L2
abbrev sRefused : Stmt := top 33
/-- isinstance of the caught error: one class, or a tuple of classes -/
def rIsXd (K : PySem.W.Frag) (C a : Addr) (cls : Value) (d : Option Addr) : List V → Hp → VK → Prop := fun xs H Q => ∃ (c : V) (u : Value) (b : Bool) (dd : Addr) (fs : List (Str × V)), xs = [.ref a, c] ∧ cls = .ref C ∧ d = some dd ∧ H dd = some (.xd fs) ∧ ClsV c u ∧ PySem.W.kitOne K (.ref C) u = some b ∧ Q (.bl b) H
def rIsXdT (K : PySem.W.Frag) (C a : Addr) (cls : Value) (d : Option Addr) : List V → Hp → VK → Prop := fun xs H Q => ∃ (tp : Addr) (cs : List V) (ws : List Value) (b : Bool) (dd : Addr) (fs : List (Str × V)), xs = [.ref a, .ref tp] ∧ cls = .ref C ∧ d = some dd ∧ H dd = some (.xd fs) ∧ H tp = some (.tup cs) ∧ Paired ClsV cs ws ∧ PySem.W.kitAny K (.ref C) ws = some b ∧ Q (.bl b) H
section
variable {X : Cx} {a C : Addr} {oe : Obj} {cls : Value} {d : Option Addr} {pn : List (Addr × Obj)}
theorem caught_at {pins : List (Addr × Obj)} {σ : L2.St} {H : Hp} {s : Shared} {dd : Addr} {fs : List (Str × V)} (hz : Zc (.ref C) (some dd) oe) (hf : ∃ vs, oe.data = .fields vs) (I : L2.Inv (X.suite a ((a, oe) :: pn)) pins σ H s) (ea : H dd = some (.xd fs)) : ∃ od, PySem.W.InstAt s.heap a oe C (some od) := by
  have got := (I.pin (a, oe) (List.mem_append_left _ List.mem_cons_self)).1
  obtain ⟨vs, hd⟩ := hf
  obtain ⟨mA, hns, _⟩ := (show ObjOk X.prog X.w H s.heap dd (.xd fs) from I.hok dd _ ea)
  obtain ⟨od, ho, _⟩ := lookIn_ns hns
  exact ⟨od, got, hz.1, by unfold PySem.W.notCls; rw [hd], by rw [hz.2]; exact ho⟩
theorem call_isXd (T : XCls X.K C) (hz : Zc cls d oe) (hf : ∃ vs, oe.data = .fields vs) : CallR (X.suite a ((a, oe) :: pn)) (.builtin "isinstance") (rIsXd X.K C a cls d) := by
  intro pins s σ H xs us Q I r ⟨c, u, b, dd, fs, e0, e1, e2, ea, k, e, q⟩
  subst e0 e1 e2
  obtain ⟨u1, u2, rfl, r1, r2⟩ := vals2 r
  have e2 := k.eq r2
  subst e2
  cases (show u1 = Value.ref a from r1)
  obtain ⟨od, J⟩ := caught_at hz hf I ea
  exact PySem.W.kia_one (PySem.W.kitx_exc (od := some od) T.cl T.ga T.gg T.sb T.ca T.sg T.tk T.mo) I.kIn J e (fun z => nomatch z) fun tk => ⟨.bl b, H, I.tok tk, rfl, q⟩
theorem call_isXdT (T : XCls X.K C) (hz : Zc cls d oe) (hf : ∃ vs, oe.data = .fields vs) : CallR (X.suite a ((a, oe) :: pn)) (.builtin "isinstance") (rIsXdT X.K C a cls d) := by
  intro pins s σ H xs us Q I r ⟨tp, cs, ws, b, dd, fs, e0, e1, e2, ea, hT, k, e, q⟩
  subst e0 e1 e2
  obtain ⟨u1, u2, rfl, r1, r2⟩ := vals2 r
  cases (show u2 = Value.ref tp from r2)
  cases (show u1 = Value.ref a from r1)
  obtain ⟨od, J⟩ := caught_at hz hf I ea
  obtain ⟨_, its, rv, ⟨oc, odd, dt, sl⟩, h1, h2, n, h3⟩ := (show ObjOk X.prog X.w H s.heap tp (.tup cs) from I.hok tp _ hT)
  have e3 := ClsV.all k rv
  subst e3
  simp only at h2 h3
  subst h2 h3
  exact PySem.W.kia_tup (PySem.W.kitx_exc (od := some od) T.cl T.ga T.gg T.sb T.ca T.sg T.tk T.mo) I.kIn J h1 e (fun z => nomatch z) fun tk => ⟨.bl b, H, I.tok tk, rfl, q⟩
end
def spRefused (C : Addr) : Sp := fun vs H Q _ => ∃ (g : Addr) (ns : List Str) (es : List Ed) (x : V) (d : PyData), vs = [.ref g, x] ∧ GrAt C H g ns es ∧ es.length < 1000 ∧ (es.map (·.2)).Pairwise (fun e f => ltE e f = true) ∧ Od H x d ∧ caB ns (es.map (·.2)) d = false ∧ ∀ H', Same H H' → Q (.bl true) H'
section
variable {P : Program} {w : World} {K : PySem.W.Frag} {mg : Str → Option Value} {base : Heap}
theorem scRefused : FnScope ["_law_graph_here", "_law_value", "e"] ["_law_graph_here", "_law_value"] (defScope sRefused) := ⟨rfl, rfl, rfl, by decide +kernel, rfl, by decide +kernel, by decide +kernel⟩
theorem ok_refused {f fF C Cn B Cr Ce : Addr} {fd fdF : FuncData} (F : Fun K "_law_refused" "_law_refused" sRefused f fd) (mi : mg "isinstance" = none) (TX : XCls K Cn) (fX : XfC K Cn) (no : PySem.W.findIn K (.ref Cn) "at" = some none) (te : PySem.W.exmOne K (.ref Cn) (.ref Cn) = some true)
    (mN : mg "NoCarry" = some (.ref Cn)) (mB : mg "ParityError" = some (.ref B)) (mR : mg "NoRecord" = some (.ref Cr)) (mE : mg "NoEdge" = some (.ref Ce)) (kB : PySem.W.kitOne K (.ref Cn) (.ref B) = some true) (kRE : PySem.W.kitAny K (.ref Cn) [.ref Cr, .ref Ce] = some false)
    (mF : mg "flipped" = some (.ref fF)) (GF : FnOk P w K mg base (L2.CX P w) 5 fF fdF ["graph", "carry"] (spFlipped C Cn)) (kF : PySem.W.keepIn K (.ref fF) = true) (bF : Binds K fdF ["graph", "carry"] []) : FnOk P w K mg base CX0 6 f fd ["_law_graph_here", "_law_value"] (spRefused C) := by
  refine F.ok scRefused (fun vs H Q E h => ?_) (fun cdv A outer s H vs Q E hr h => ?_)
  · obtain ⟨g, ns, es, x, d, rfl, _⟩ := h; rfl
  · obtain ⟨g, ns, es, x, d, rfl, G, few, nd, o, c, k⟩ := h
    refine ⟨_, pss_cons (ps_try_as (i := 2) rfl rfl scRefused.nd rfl rfl ⟨rfl, by decide, .inl mN⟩ takes0
        (fun W pn xe tk _ => pss_one (ps_expr (pe_callS GF hr rfl mF kF bF (fun σ => passAt tk σ) (pa_cons (pv 0) (pa_cons (pv 1) pa_nil)))))
        (fun a oe cls d pn hz hf => pss_one (ps_ret (pe_and (pe_cmpR op_eq (pe_xf fX no hz hf (pv 2)) pe_int (nomark _))
          (pe_and (pe_callB (call_isXd TX hz hf) (by rfl) mi (by decide +kernel) (pa_cons (pv 2) (pa_cons (pe_glob (v := .ref B) rfl mB rfl) pa_nil)))
          (pe_one (pe_not (pe_callB (call_isXdT TX hz hf) (by rfl) mi (by decide +kernel) (pa_cons (pv 2) (pa_cons (pe_tup (pa_cons (pe_glob (v := .ref Cr) rfl mR rfl) (pa_cons (pe_glob (v := .ref Ce) rfl mE rfl) pa_nil))) pa_nil))))))))))
      (pss_one (ps_ret pe_bl)), ?_⟩
    refine ⟨_, rfl, _, rfl, g, ns, es, x, d, rfl, G, few, nd, o, fun _ dd H' hdd hx s1 => ?_, fun u v z e cc => by rw [c] at cc; cases cc⟩
    refine ⟨true, te, fun _ a ha => ?_, fun q => nomatch q⟩
    refine ⟨_, rfl, rfl, rfl, dd, _, _, rfl, hx, rfl, rfl, _, rfl, iteT ?_⟩
    refine ⟨_, rfl, _, _, true, dd, _, rfl, rfl, rfl, hx, .own _, kB, _, rfl, iteT ?_⟩
    refine ⟨_, rfl, by show 2 ≤ sizeLine; decide, fun tp htp => ?_⟩
    exact ⟨tp, _, _, false, dd, _, rfl, rfl, rfl, Same.new htp _ _ hx, upd_same, .cons (.own _) (.cons (.own _) .nil), kRE, _, rfl, k _ (s1.trans (Same.new htp))⟩
end
end CP
/-! t[::-1] of a pair -/
namespace CP
open PySem PySem.Spec PyProof.Rows L2
section
variable {prog : Program} {w : World} {A : Around} {E : Value → Shared → Prop} {s : Shared}
theorem rev2_applied {sl : Addr} {v1 v2 v3 : Value} {Q : Int × Int × Nat → Shared → Prop} (hs : s.heap.IsSliceOf sl v1 v2 v3) (p1 : IsPart v1 none) (p2 : IsPart v2 none) (p3 : IsPart v3 (some (-1))) (h : Q (1, -1, 2) s) :
    wpAny (model prog w) A (Builtin.Slice.sliceApplied (.ref sl) (pure ((2 : Nat) : Int))) Q E s := by
  obtain ⟨o, ho, hc, hd⟩ := id hs
  unfold Builtin.Slice.sliceApplied Builtin.Slice.sliceFields
  refine wpAny_bind (wpAny_bind (wpAny_field ho hd (x := v1) rfl (wpAny_bind (wpAny_field ho hd (x := v2) rfl (wpAny_bind (wpAny_field ho hd (x := v3) rfl (wpAny_pure ?_)))))))
  refine wpAny_bind (HT.slicePart_ p3 ?_)
  show wpAny _ _ (if ((-1 : Int) == 0) = true then _ else _) _ _ s
  rw [if_neg (by decide)]
  refine wpAny_bind (HT.slicePart_ p1 (wpAny_bind (HT.slicePart_ p2 (wpAny_bind (wpAny_pure ?_)))))
  exact wpAny_pure h
theorem getItem_rev2 {t sl : Addr} {x y v1 v2 v3 : Value} {Q : Value → Shared → Prop} (ht : IsTup s.heap t #[x, y]) (hs : s.heap.IsSliceOf sl v1 v2 v3) (p1 : IsPart v1 none) (p2 : IsPart v2 none) (p3 : IsPart v3 (some (-1)))
    (h : Q (.ref s.heap.objs.size) { s with heap := s.heap.push { cls := .type "tuple", data := .seq #[y, x] } }) : wpAny (model prog w) A (getItem (.ref t) (.ref sl)) Q E s := by
  have fit : sizeOk (.seq #[y, x]) := by show 2 ≤ sizeLine; decide
  obtain ⟨o, ho, hc, hd⟩ := id hs
  have tS : s.TypeIs (.ref sl) "slice" := ⟨o, ho, hc⟩
  unfold getItem
  try with_reducible refine wpAny_holding ?_
  first | refine wpAny_bind (wpAny_pure ?_) | skip
  refine wpAny_bind (wpAny_sequenceKey ht.typeIs (by decide) ?_)
  refine wpAny_bind (wpAny_callSpecial?_slot (name := Str.ofString "__getitem__") ht.typeIs slot_tuple_getitem (wpAny_call_entry slot_tuple_getitem ht.typeIs entry_tuple_getitem ?_ (args_tuple_getitem _ _)))
  show wpAny _ _ (Builtin.Tuple.tupleItemsOf (.ref t) >>= _) _ _ s
  refine wpAny_bind (tupleItemsOf_ ht (wpAny_bind (wpAny_typeOf tS ?_)))
  rw [if_pos (by decide)]
  refine wpAny_bind (rev2_applied hs p1 p2 p3 ?_)
  show wpAny _ _ (if (((1 : Int) == 0 && (-1 : Int) == 1 && (2 : Nat) == 2) = true) then _ else _) _ _ s
  rw [if_neg (by decide)]
  have e : ((List.range 2).filterMap fun (m : Nat) => (#[x, y] : Array Value)[((1 : Int) + (m : Int) * (-1)).toNat]?).toArray = #[y, x] := rfl
  rw [e]
  first
    | exact wpAny_bind (m := Builtin.Tuple.tupleExact _) (wpAny_newObj_type (wpAny_pure ⟨_, rfl, wpAny_pure h⟩) fit)
    | exact wpAny_bind (m := Builtin.Tuple.tupleExact _) (wpAny_newObj_type (wpAny_bind (wpAny_pure (wpAny_pure ⟨_, rfl, wpAny_pure h⟩))) fit)
    | exact wpAny_bind (wpAny_bind (m := Builtin.Tuple.tupleExact _) (wpAny_newObj_type (wpAny_pure (wpAny_pure ⟨_, rfl, wpAny_pure h⟩)) fit))
    | exact wpAny_bind (wpAny_bind (m := Builtin.Tuple.tupleExact _) (wpAny_newObj_type (wpAny_pure ⟨_, rfl, wpAny_pure h⟩) fit))
end
/-- t[::-1], t a pair -/
def tRev2 (te : TE) : TE := fun σ H Q => te σ H fun x H1 => ∃ a u v, x = .ref a ∧ H1 a = some (.tup [u, v]) ∧ ∀ p, H1 p = none → Q (.ref p) (L2.upd H1 p (.tup [v, u]))
theorem pe_rev2 {X : Cx} {e : Expr} {te : TE} {k : Nat} {p1 p2 p3 pos : Pos} (he : PE X e te) : PE X (.Subscript e (.Slice none none (some (.UnaryOp .USub (.Constant (.int 1) k p1) p2)) p3) pos) (tRev2 te) := by
  refine ⟨fun pins s σ H Q I h => Subscript_ (thn (he.run pins s σ H _ I h) fun v s1 ⟨x, H1, I1, r1, a, y, z, ex, hx, q⟩ => ?_)⟩
  subst ex
  cases r1
  have st : PO X (some (.UnaryOp .USub (.Constant (.int 1) k p1) p2)) (tPart (tUn (rU fun i => .int (-i)) (tC (.int 1)))) := po_some (pe_un un_neg pe_int)
  refine wpAny_Slice (thn (po_none.run pins s1 σ H1 (fun o H2 => o = none ∧ H2 = H1) I1 ⟨rfl, rfl⟩) fun v1 s2 ⟨o1, H2, I2, q1, eo1, e2⟩ => thn (po_none.run pins s2 σ H2 (fun o H3 => o = none ∧ H3 = H1) I2 ⟨rfl, e2⟩) fun v2 s3 ⟨o2, H3, I3, q2, eo2, e3⟩ => thn (st.run pins s3 σ H3 (fun o H4 => o = some (-1) ∧ H4 = H1) I3 ⟨1, rfl, -1, rfl, rfl, e3⟩) fun v3 s4 ⟨o3, H4, I4, q3, eo3, e4⟩ => ?_)
  subst eo1 eo2 eo3
  subst e4
  have I5 : L2.Inv X pins σ H4 { s4 with heap := s4.heap.push { cls := .type "slice", data := .fields #[v1, v2, v3] } } := I4.kept (t' := s4.toks) fun b ob z => Heap.get?_push_of_some _ z
  obtain ⟨its, r, ht, hz⟩ := I5.tuple (SqT.of hx)
  obtain ⟨u1, u2, rfl, ra, rb⟩ := vals2 r
  show wpAny _ _ (subscriptTail e (.Slice none none _ p3) (.ref a) (.ref s4.heap.objs.size)) _ _ _
  refine tail_any (ops := [.ref a, .ref s4.heap.objs.size]) ht.typeIs (slot_tuple_getitem.lookup) ?_ (by with_unfolding_all rfl)
  refine getItem_rev2 ht (Heap.IsSliceOf.new _ v1 v2 v3) q1 q2 q3 ?_
  exact ⟨.ref _, _, I5.laid (t' := s4.toks) (o := .tup [z, y]) (fun b ob q => Heap.get?_push_of_some _ q) (Nat.le_refl _) ⟨by show 2 ≤ sizeLine; decide, [u2, u1], .cons rb (.cons ra .nil), IsTup.new _ _⟩, rfl, q _ (I5.hok.fresh (Nat.le_refl _))⟩
end CP
/-! values that are not carries -/
namespace CP
open PySem L2
abbrev sOdd : Stmt := top 34
/-- the heap without what is at a -/
def hide (a : Addr) (H : Hp) : Hp := fun b => if b = a then none else H b
theorem hide_ne {a b : Addr} {H : Hp} (h : b ≠ a) : hide a H b = H b := if_neg h
theorem hide_some {a b : Addr} {H : Hp} {o : HO} (h : hide a H b = some o) : b ≠ a ∧ H b = some o := by
  unfold hide at h
  by_cases c : b = a
  · rw [if_pos c] at h; cases h
  · rw [if_neg c] at h; exact ⟨c, h⟩
theorem But.hide {a : Addr} {H H' : Hp} (B : But a H H') : Same (hide a H) (hide a H') := fun b o e => by
  obtain ⟨n, e⟩ := hide_some e
  rw [hide_ne n]; exact B b o n e
theorem hide_same {a : Addr} {H : Hp} : Same (hide a H) H := fun b o e => (hide_some e).2
/-- x is no carry, whatever the edges are -/
def NoC (ns : List Str) (d : PyData) : Prop := ∀ es, caB ns es d = false
def OkV (a : Addr) (ns : List Str) (H : Hp) (x : V) : Prop := ∃ d, Od (hide a H) x d ∧ NoC ns d
theorem OkV.but {a : Addr} {ns : List Str} {H H' : Hp} {x : V} (B : But a H H') (h : OkV a ns H x) : OkV a ns H' x := let ⟨d, o, n⟩ := h; ⟨d, o.same B.hide, n⟩
theorem OkV.same {a : Addr} {ns : List Str} {H H' : Hp} {x : V} (s : Same H H') (h : OkV a ns H x) : OkV a ns H' x := h.but (But.of_same s)
def spOdd : Sp := fun vs H Q _ => ∃ (a n e : Addr) (ns : List Str) (ks : List Ed), vs = [.ref a, .ref n, .ref e] ∧ Src H a ∧ n ≠ a ∧ e ≠ a ∧ ArgsOk H n e ns ks ∧ (∀ z ∈ ns, z ∈ base8) ∧
  ∀ l xs H', H' l = some (.lst xs) → xs.length ≤ 100 → (∀ x ∈ xs, OkV a ns H' x) → Src H' a → But a H H' → Q (.ref l) H'
theorem noC_list (ns : List Str) (ds : List PyData) : NoC ns (.list ds) := fun _ => rfl
theorem noC_ed {ns : List Str} {a b : PyData} (h : ∀ es, edB ns es a = false) : NoC ns (.tuple [a, b]) := fun es => by rw [caB_eq, h es]; rfl
theorem noC_am {ns : List Str} {a b : PyData} (h : amB ns b = false) : NoC ns (.tuple [a, b]) := fun es => by rw [caB_eq, h, Bool.false_and, Bool.and_false]
theorem noC_off {ns : List Str} {u v z : Str} (h : z ∈ [u, v]) : NoC ns (.tuple [.tuple [.str u, .str v], .str z]) := fun es => by
  have e : offB (.tuple [.str u, .str v]) z = false := decide_eq_false fun n => n h
  show (edB ns es (.tuple [.str u, .str v]) && (decide (z ∈ ns) && offB (.tuple [.str u, .str v]) z)) = false
  rw [e, Bool.and_false, Bool.and_false]
theorem ed_notin {ns : List Str} {u v : Str} (h : u ∉ ns) (es : List E2) : edB ns es (.tuple [.str u, .str v]) = false := by
  show ((decide (u ∈ ns) && _) && _) = false
  rw [decide_eq_false h]; rfl
theorem ed_notlt {ns : List Str} {u v : Str} (h : ltS u v = false) (es : List E2) : edB ns es (.tuple [.str u, .str v]) = false := by
  show ((decide (u ∈ ns) && (decide (v ∈ ns) && ltS u v)) && _) = false
  rw [h, Bool.and_false, Bool.and_false]; rfl
theorem nobody_out {ns : List Str} (h : ∀ z ∈ ns, z ∈ base8) : ("nobody" : Str) ∉ ns := fun m => absurd (h _ m) (by decide +kernel)
theorem blank_out {ns : List Str} (h : ∀ z ∈ ns, NameOk z) (z : Str) : (z ++ (" " : Str)) ∉ ns := fun m => by
  have q := (h _ m).all 32 (by
    show (32 : Nat) ∈ (z ++ (" " : Str)).cps.toList
    have e : (z ++ (" " : Str)).cps = z.cps ++ (" " : Str).cps := rfl
    rw [e, Array.toList_append]
    exact List.mem_append_right _ (by decide +kernel))
  exact absurd q (by decide +kernel)
end CP
namespace CP
open PySem L2
theorem odT {a t : Addr} {H : Hp} {xs : List V} {ds : List PyData} (n : t ≠ a) (h : H t = some (.tup xs)) (al : OdAll (hide a H) xs ds) : Od (hide a H) (.ref t) (.tuple ds) := .tup (by rw [hide_ne n]; exact h) al
theorem odL {a t : Addr} {H : Hp} {xs : List V} {ds : List PyData} (n : t ≠ a) (h : H t = some (.lst xs)) (al : OdAll (hide a H) xs ds) : Od (hide a H) (.ref t) (.list ds) := .lst (by rw [hide_ne n]; exact h) al
theorem odD {a t : Addr} {H : Hp} (n : t ≠ a) (h : H t = some (.dK [])) : Od (hide a H) (.ref t) (.dict []) := .dct (by rw [hide_ne n]; exact h)
section
variable {P : Program} {w : World} {K : PySem.W.Frag} {mg : Str → Option Value} {base : Heap}
theorem scOdd : FnScope ["_law_source", "_law_names", "_law_edges", "_law_found", "_law_edge", "_law_end"] ["_law_source", "_law_names", "_law_edges"] (defScope sOdd) := ⟨rfl, rfl, rfl, by decide +kernel, rfl, by decide +kernel, by decide +kernel⟩
theorem ok_odd {f fO : Addr} {fd fdO : FuncData} (F : Fun K "_law_odd_values" "_law_odd_values" sOdd f fd) (ml : mg "list" = none)
    (mO : mg "_law_one" = some (.ref fO)) (GO : FnOk P w K mg base CX0 2 fO fdO ["_law_source", "_law_some"] (spOne K)) (kO : PySem.W.keepIn K (.ref fO) = true) (bO : Binds K fdO ["_law_source", "_law_some"] []) : FnOk P w K mg base CX0 3 f fd ["_law_source", "_law_names", "_law_edges"] spOdd := by
  refine F.ok scOdd (fun vs H Q E h => ?_) (fun cdv A outer s H vs Q E hr h => ?_)
  · obtain ⟨a, n, e, ns, ks, rfl, _⟩ := h; rfl
  · obtain ⟨a, n, e, ns, ks, rfl, S0, na, ea, G, nsub, k⟩ := h
    obtain ⟨gna, gn0, gn8, gnd, gnm, gea, ged, geo, gen, gel⟩ := id G
    refine ⟨_, pss_cons (ps_set (i := 3) scOdd.nd rfl (Or.inl rfl) (pe_lst (pa_cons pe_non (pa_cons pe_int (pa_cons pe_str (pa_cons (pe_tup pa_nil) (pa_cons (pe_lst pa_nil) (pa_cons pe_dnewK (pa_cons (pe_tup (pa_cons pe_str (pa_cons pe_str pa_nil))) (pa_cons (pe_tup (pa_cons (pe_tup (pa_cons pe_str (pa_cons pe_str pa_nil))) (pa_cons pe_str pa_nil))) (pa_cons (pe_tup (pa_cons (pe_tup (pa_cons pe_str (pa_cons pe_str pa_nil))) (pa_cons (pe_ix ix_list (pv 1) pe_int (fun _ _ => rfl)) pa_nil))) pa_nil)))))))))))
      (pss_cons (ps_for PassesOwn.never rfl (pi_list (pe_slice sl_list (pv 2) po_none (po_some pe_int))) (pg_name (i := 4) scOdd.nd rfl (Or.inl rfl))
        (pss_cons (ps_set (i := 5) scOdd.nd rfl (Or.inl rfl) (pe_call GO hr rfl mO kO bO .nil pass0 (pa_cons (pv 0) (pa_cons (pv 1) pa_nil))))
        (pss_cons (ps_set (i := 3) scOdd.nd rfl (Or.inl rfl) (pe_op op_cat (pv 3) (pe_lst (pa_cons (pe_tup (pa_cons (pv 4) (pa_cons (pe_ix ix_tup (pv 4) pe_int (fun _ _ => rfl)) pa_nil))) (pa_cons (pe_tup (pa_cons (pv 4) (pa_cons (pe_ix ix_tup (pv 4) pe_int (fun _ _ => rfl)) pa_nil))) (pa_cons (pe_tup (pa_cons (pe_rev2 (pv 4)) (pa_cons (pv 5) pa_nil))) (pa_cons (pe_lst (pa_cons (pv 4) (pa_cons (pv 5) pa_nil))) (pa_cons (pe_tup (pa_cons (pe_callTy call_list_of (by rfl) ml (by decide +kernel) (pa_cons (pv 4) pa_nil)) (pa_cons (pv 5) pa_nil))) pa_nil))))))))
        (pss_one (ps_set (i := 3) scOdd.nd rfl (Or.inl rfl) (pe_op op_cat (pv 3) (pe_lst (pa_cons (pe_tup (pa_cons (pv 4) (pa_cons (pe_lst (pa_cons (pv 5) pa_nil)) pa_nil))) (pa_cons (pe_tup (pa_cons (pv 4) (pa_cons (pv 5) (pa_cons (pv 5) pa_nil)))) (pa_cons (pe_tup (pa_cons (pv 4) pa_nil)) (pa_cons (pe_tup (pa_cons (pv 4) (pa_cons pe_non pa_nil))) (pa_cons (pe_tup (pa_cons (pe_op op_catT (pv 4) (pv 4)) (pa_cons (pv 5) pa_nil))) (pa_cons (pe_tup (pa_cons (pv 4) (pa_cons (pe_op op_add_str (pv 5) pe_str) pa_nil))) pa_nil)))))))))))))
      (pss_one (ps_ret (pv 3)))), ?_⟩
    refine ⟨by show 0 ≤ sizeLine; decide, fun t0 ht0 => ?_⟩
    have st0 : Same H (L2.upd H t0 (.tup [])) := Same.new ht0
    have et0 : (L2.upd H t0 (.tup [])) t0 = some (.tup []) := upd_same
    have nt0 := S0.ne ht0
    generalize L2.upd H t0 (.tup []) = J1 at st0 et0 ⊢
    have St0 := S0.but st0
    refine ⟨by show 0 ≤ sizeLine; decide, fun l0 hl0 => ?_⟩
    have sl0 : Same J1 (L2.upd J1 l0 (.lst [])) := Same.new hl0
    have el0 : (L2.upd J1 l0 (.lst [])) l0 = some (.lst []) := upd_same
    have nl0 := St0.ne hl0
    generalize L2.upd J1 l0 (.lst []) = J2 at sl0 el0 ⊢
    have Sl0 := St0.but sl0
    intro d0 hd0
    have sd0 : Same J2 (L2.upd J2 d0 (.dK [])) := Same.new hd0
    have ed0 : (L2.upd J2 d0 (.dK [])) d0 = some (.dK []) := upd_same
    have nd0 := Sl0.ne hd0
    generalize L2.upd J2 d0 (.dK []) = J3 at sd0 ed0 ⊢
    have Sd0 := Sl0.but sd0
    refine ⟨by show 2 ≤ sizeLine; decide, fun t1 ht1 => ?_⟩
    have st1 : Same J3 (L2.upd J3 t1 (.tup [.str "a", .str "b"])) := Same.new ht1
    have et1 : (L2.upd J3 t1 (.tup [.str "a", .str "b"])) t1 = some (.tup [.str "a", .str "b"]) := upd_same
    have nt1 := Sd0.ne ht1
    generalize L2.upd J3 t1 (.tup [.str "a", .str "b"]) = J4 at st1 et1 ⊢
    have St1 := Sd0.but st1
    refine ⟨by show 2 ≤ sizeLine; decide, fun t2 ht2 => ?_⟩
    have st2 : Same J4 (L2.upd J4 t2 (.tup [.str "a", .str "b"])) := Same.new ht2
    have et2 : (L2.upd J4 t2 (.tup [.str "a", .str "b"])) t2 = some (.tup [.str "a", .str "b"]) := upd_same
    have nt2 := St1.ne ht2
    generalize L2.upd J4 t2 (.tup [.str "a", .str "b"]) = J5 at st2 et2 ⊢
    have St2 := St1.but st2
    refine ⟨by show 2 ≤ sizeLine; decide, fun t3 ht3 => ?_⟩
    have st3 : Same J5 (L2.upd J5 t3 (.tup [.ref t2, .str "nobody"])) := Same.new ht3
    have et3 : (L2.upd J5 t3 (.tup [.ref t2, .str "nobody"])) t3 = some (.tup [.ref t2, .str "nobody"]) := upd_same
    have nt3 := St2.ne ht3
    generalize L2.upd J5 t3 (.tup [.ref t2, .str "nobody"]) = J6 at st3 et3 ⊢
    have St3 := St2.but st3
    refine ⟨by show 2 ≤ sizeLine; decide, fun t4 ht4 => ?_⟩
    have st4 : Same J6 (L2.upd J6 t4 (.tup [.str "nobody", .str "none"])) := Same.new ht4
    have et4 : (L2.upd J6 t4 (.tup [.str "nobody", .str "none"])) t4 = some (.tup [.str "nobody", .str "none"]) := upd_same
    have nt4 := St3.ne ht4
    generalize L2.upd J6 t4 (.tup [.str "nobody", .str "none"]) = J7 at st4 et4 ⊢
    have St4 := St3.but st4
    obtain ⟨z0, zs0, rfl⟩ : ∃ z0 zs0, ns = z0 :: zs0 := by cases ns with | nil => simp at gn0 | cons z zs => exact ⟨z, zs, rfl⟩
    have s07 : Same H J7 := (st0.trans (sl0.trans (sd0.trans (st1.trans (st2.trans (st3.trans st4))))))
    refine ⟨_, rfl, n, _, _, _, rfl, rfl, SqL.of (s07 _ _ gna), atI_nat (j := 0) rfl, by show 2 ≤ sizeLine; decide, fun t5 ht5 => ?_⟩
    have st5 : Same J7 (L2.upd J7 t5 (.tup [.ref t4, .str z0])) := Same.new ht5
    have et5 : (L2.upd J7 t5 (.tup [.ref t4, .str z0])) t5 = some (.tup [.ref t4, .str z0]) := upd_same
    have nt5 := St4.ne ht5
    generalize L2.upd J7 t5 (.tup [.ref t4, .str z0]) = J8 at st5 et5 ⊢
    have St5 := St4.but st5
    refine ⟨by show 9 ≤ sizeLine; decide, fun L hL => ?_⟩
    have sL : Same J8 (L2.upd J8 L (.lst [.non, .int 5, .str "ab", .ref t0, .ref l0, .ref d0, .ref t1, .ref t3, .ref t5])) := Same.new hL
    have eL : (L2.upd J8 L (.lst [.non, .int 5, .str "ab", .ref t0, .ref l0, .ref d0, .ref t1, .ref t3, .ref t5])) L = some (.lst [.non, .int 5, .str "ab", .ref t0, .ref l0, .ref d0, .ref t1, .ref t3, .ref t5]) := upd_same
    have nL := St5.ne hL
    generalize L2.upd J8 L (.lst [.non, .int 5, .str "ab", .ref t0, .ref l0, .ref d0, .ref t1, .ref t3, .ref t5]) = J9 at sL eL ⊢
    have SL := St5.but sL
    have wt0 := (sl0.trans (sd0.trans (st1.trans (st2.trans (st3.trans (st4.trans (st5.trans sL))))))) _ _ et0
    have wl0 := (sd0.trans (st1.trans (st2.trans (st3.trans (st4.trans (st5.trans sL)))))) _ _ el0
    have wd0 := (st1.trans (st2.trans (st3.trans (st4.trans (st5.trans sL))))) _ _ ed0
    have wt1 := (st2.trans (st3.trans (st4.trans (st5.trans sL)))) _ _ et1
    have wt2 := (st3.trans (st4.trans (st5.trans sL))) _ _ et2
    have wt3 := (st4.trans (st5.trans sL)) _ _ et3
    have wt4 := (st5.trans sL) _ _ et4
    have wt5 := sL _ _ et5
    have s0L : Same H J9 := (st0.trans (sl0.trans (sd0.trans (st1.trans (st2.trans (st3.trans (st4.trans (st5.trans sL))))))))
    have nob := nobody_out nsub
    have okL : ∀ x ∈ ([.non, .int 5, .str "ab", .ref t0, .ref l0, .ref d0, .ref t1, .ref t3, .ref t5] : List V), OkV a (z0 :: zs0) J9 x := fun x hx => by
      simp only [List.mem_cons, List.not_mem_nil, or_false] at hx
      rcases hx with rfl | rfl | rfl | rfl | rfl | rfl | rfl | rfl | rfl
      · exact ⟨_, .non, fun _ => rfl⟩
      · exact ⟨_, .int 5, fun _ => rfl⟩
      · exact ⟨_, .str _, fun _ => rfl⟩
      · exact ⟨_, odT nt0 wt0 .nil, fun _ => rfl⟩
      · exact ⟨_, odL nl0 wl0 .nil, fun _ => rfl⟩
      · exact ⟨_, odD nd0 wd0, fun _ => rfl⟩
      · exact ⟨_, odT nt1 wt1 (.cons (.str _) (.cons (.str _) .nil)), noC_ed fun _ => rfl⟩
      · exact ⟨_, odT nt3 wt3 (.cons (odT nt2 wt2 (.cons (.str _) (.cons (.str _) .nil))) (.cons (.str _) .nil)), noC_am (decide_eq_false nob)⟩
      · exact ⟨_, odT nt5 wt5 (.cons (odT nt4 wt4 (.cons (.str _) (.cons (.str _) .nil))) (.cons (.str _) .nil)), noC_ed (ed_notin nob)⟩
    refine ⟨_, rfl, _, rfl, e, _, rfl, SqL.of (s0L _ _ gea), fun e3 he3 => ?_⟩
    rw [cut_take _ _ (by decide), ← List.map_take]
    have s3 : Same J9 (L2.upd J9 e3 (.lst ((ks.take (3 : Int).toNat).map fun p => V.ref p.1))) := Same.new he3
    have ee3 : (L2.upd J9 e3 (.lst ((ks.take (3 : Int).toNat).map fun p => V.ref p.1))) e3 = some (.lst ((ks.take (3 : Int).toNat).map fun p => V.ref p.1)) := upd_same
    have ne3 := SL.ne he3
    generalize L2.upd J9 e3 (.lst ((ks.take (3 : Int).toNat).map fun p => V.ref p.1)) = HB at s3 ee3 ⊢
    have SB := SL.but s3
    have s0B := s0L.trans s3
    have ksub : ∀ p ∈ ks.take (3 : Int).toNat, p ∈ ks := fun p hp => List.mem_of_mem_take hp
    have k3 : (ks.take (3 : Int).toNat).length ≤ 3 := by rw [List.length_take]; exact Nat.min_le_left _ _
    generalize ks.take (3 : Int).toNat = ts at ee3 ksub k3 ⊢
    refine ⟨e3, rfl, ⟨_, SqL.of ee3⟩, for_list (K := K) (a := e3) (xs := ts.map fun p => V.ref p.1) (fun i σ H' => ∃ l xs v4 v5, σ = [some (.ref a), some (.ref n), some (.ref e), some (.ref l), v4, v5] ∧ Src H' a ∧ But a HB H' ∧ H' l = some (.lst xs) ∧ l ≠ a ∧ xs.length ≤ 9 + 11 * i ∧ ∀ x ∈ xs, OkV a (z0 :: zs0) H' x)
      ⟨L, _, _, _, rfl, SB, But.refl, s3 _ _ eL, nL, by show 9 ≤ 9 + 11 * 0; decide, fun x hx => (okL x hx).same s3⟩ (fun i σ H' _ ⟨_, _, _, _, _, _, B, _⟩ => SqL.of (B _ _ ne3 ee3)) ?_ ?_⟩
    · rintro i x σ H1 hi ⟨l, xs, v4, v5, rfl, S1, B1, hl, la, lx, okx⟩
      have li : i < ts.length := by have := (List.getElem?_eq_some_iff.mp hi).1; rw [List.length_map] at this; exact this
      rw [List.getElem?_map, List.getElem?_eq_getElem li] at hi
      obtain rfl : V.ref ts[i].1 = x := Option.some.inj hi
      have mi := ksub _ (List.getElem_mem li)
      have epB : EdAt HB ts[i] := s0B _ _ (ged _ mi)
      have eo := geo _ mi
      generalize ts[i] = p at epB eo mi
      obtain ⟨pa, pu, pv'⟩ := p
      have pna : pa ≠ a := ne_of (show HB pa = some (.tup [.str pu, .str pv']) from epB) (show HB a = some _ from SB.choose_spec.choose_spec.choose_spec) (fun z => by cases z)
      have gn1 : H1 n = some (.lst ((z0 :: zs0).map V.str)) := B1 _ _ na (s0B _ _ gna)
      refine ⟨_, rfl, _, rfl, a, n, _, rfl, S1, na.symm, SqL.of gn1, gn1, by rw [List.length_map]; exact gn0, by rw [List.length_map]; omega, fun y H2 hy S2 B2 => ?_⟩
      obtain ⟨z, hz, rfl⟩ := List.mem_map.mp hy
      have B02 : But a HB H2 := B1.trans B2
      have ep : H2 pa = some (.tup [.str pu, .str pv']) := B02 _ _ pna epB
      have hl2 := B2 _ _ la hl
      have okx2 : ∀ x ∈ xs, OkV a (z0 :: zs0) H2 x := fun x hx => (okx x hx).but B2
      have zok := gnm z hz
      refine ⟨_, rfl, _, rfl, _, rfl, pa, _, _, _, rfl, rfl, SqT.of ep, atI_nat (j := 0) rfl, by show 2 ≤ sizeLine; decide, fun u1 hu1 => ?_⟩
      have su1 : Same H2 (L2.upd H2 u1 (.tup [.ref pa, .str pu])) := Same.new hu1
      have eu1 : (L2.upd H2 u1 (.tup [.ref pa, .str pu])) u1 = some (.tup [.ref pa, .str pu]) := upd_same
      have nu1 := S2.ne hu1
      generalize L2.upd H2 u1 (.tup [.ref pa, .str pu]) = J10 at su1 eu1 ⊢
      have Su1 := S2.but su1
      refine ⟨_, rfl, _, rfl, pa, _, _, _, rfl, rfl, SqT.of (su1 _ _ ep), atI_nat (j := 1) rfl, by show 2 ≤ sizeLine; decide, fun u2 hu2 => ?_⟩
      have su2 : Same J10 (L2.upd J10 u2 (.tup [.ref pa, .str pv'])) := Same.new hu2
      have eu2 : (L2.upd J10 u2 (.tup [.ref pa, .str pv'])) u2 = some (.tup [.ref pa, .str pv']) := upd_same
      have nu2 := Su1.ne hu2
      generalize L2.upd J10 u2 (.tup [.ref pa, .str pv']) = J11 at su2 eu2 ⊢
      have Su2 := Su1.but su2
      refine ⟨_, rfl, pa, _, _, rfl, ((su1.trans su2) _ _ ep), fun u3 hu3 => ?_⟩
      have su3 : Same J11 (L2.upd J11 u3 (.tup [.str pv', .str pu])) := Same.new hu3
      have eu3 : (L2.upd J11 u3 (.tup [.str pv', .str pu])) u3 = some (.tup [.str pv', .str pu]) := upd_same
      have nu3 := Su2.ne hu3
      generalize L2.upd J11 u3 (.tup [.str pv', .str pu]) = J12 at su3 eu3 ⊢
      have Su3 := Su2.but su3
      refine ⟨_, rfl, by show 2 ≤ sizeLine; decide, fun u4 hu4 => ?_⟩
      have su4 : Same J12 (L2.upd J12 u4 (.tup [.ref u3, .str z])) := Same.new hu4
      have eu4 : (L2.upd J12 u4 (.tup [.ref u3, .str z])) u4 = some (.tup [.ref u3, .str z]) := upd_same
      have nu4 := Su3.ne hu4
      generalize L2.upd J12 u4 (.tup [.ref u3, .str z]) = J13 at su4 eu4 ⊢
      have Su4 := Su3.but su4
      refine ⟨_, rfl, _, rfl, by show 2 ≤ sizeLine; decide, fun u5 hu5 => ?_⟩
      have su5 : Same J13 (L2.upd J13 u5 (.lst [.ref pa, .str z])) := Same.new hu5
      have eu5 : (L2.upd J13 u5 (.lst [.ref pa, .str z])) u5 = some (.lst [.ref pa, .str z]) := upd_same
      have nu5 := Su4.ne hu5
      generalize L2.upd J13 u5 (.lst [.ref pa, .str z]) = J14 at su5 eu5 ⊢
      have Su5 := Su4.but su5
      refine ⟨_, rfl, pa, _, rfl, .inr (SqT.of ((su1.trans (su2.trans (su3.trans (su4.trans su5)))) _ _ ep)), fun u6 hu6 => ?_⟩
      have su6 : Same J14 (L2.upd J14 u6 (.lst [.str pu, .str pv'])) := Same.new hu6
      have eu6 : (L2.upd J14 u6 (.lst [.str pu, .str pv'])) u6 = some (.lst [.str pu, .str pv']) := upd_same
      have nu6 := Su5.ne hu6
      generalize L2.upd J14 u6 (.lst [.str pu, .str pv']) = J15 at su6 eu6 ⊢
      have Su6 := Su5.but su6
      refine ⟨_, rfl, by show 2 ≤ sizeLine; decide, fun u7 hu7 => ?_⟩
      have su7 : Same J15 (L2.upd J15 u7 (.tup [.ref u6, .str z])) := Same.new hu7
      have eu7 : (L2.upd J15 u7 (.tup [.ref u6, .str z])) u7 = some (.tup [.ref u6, .str z]) := upd_same
      have nu7 := Su6.ne hu7
      generalize L2.upd J15 u7 (.tup [.ref u6, .str z]) = J16 at su7 eu7 ⊢
      have Su7 := Su6.but su7
      refine ⟨by show 5 ≤ sizeLine; decide, fun m1 hm1 => ?_⟩
      have sm1 : Same J16 (L2.upd J16 m1 (.lst [.ref u1, .ref u2, .ref u4, .ref u5, .ref u7])) := Same.new hm1
      have em1 : (L2.upd J16 m1 (.lst [.ref u1, .ref u2, .ref u4, .ref u5, .ref u7])) m1 = some (.lst [.ref u1, .ref u2, .ref u4, .ref u5, .ref u7]) := upd_same
      have nm1 := Su7.ne hm1
      generalize L2.upd J16 m1 (.lst [.ref u1, .ref u2, .ref u4, .ref u5, .ref u7]) = J17 at sm1 em1 ⊢
      have Sm1 := Su7.but sm1
      have s2m : Same H2 J17 := (su1.trans (su2.trans (su3.trans (su4.trans (su5.trans (su6.trans (su7.trans sm1)))))))
      refine ⟨l, m1, _, _, rfl, rfl, s2m _ _ hl2, em1, by show xs.length + 5 ≤ _; rw [sizeLine_eq]; omega, fun q1 hq1 => ?_⟩
      have sq1 : Same J17 (L2.upd J17 q1 (.lst (xs ++ [.ref u1, .ref u2, .ref u4, .ref u5, .ref u7]))) := Same.new hq1
      have eq1 : (L2.upd J17 q1 (.lst (xs ++ [.ref u1, .ref u2, .ref u4, .ref u5, .ref u7]))) q1 = some (.lst (xs ++ [.ref u1, .ref u2, .ref u4, .ref u5, .ref u7])) := upd_same
      have nq1 := Sm1.ne hq1
      generalize L2.upd J17 q1 (.lst (xs ++ [.ref u1, .ref u2, .ref u4, .ref u5, .ref u7])) = J18 at sq1 eq1 ⊢
      have Sq1 := Sm1.but sq1
      refine ⟨_, rfl, _, rfl, _, rfl, by show 1 ≤ sizeLine; decide, fun v1 hv1 => ?_⟩
      have sv1 : Same J18 (L2.upd J18 v1 (.lst [.str z])) := Same.new hv1
      have ev1 : (L2.upd J18 v1 (.lst [.str z])) v1 = some (.lst [.str z]) := upd_same
      have nv1 := Sq1.ne hv1
      generalize L2.upd J18 v1 (.lst [.str z]) = J19 at sv1 ev1 ⊢
      have Sv1 := Sq1.but sv1
      refine ⟨by show 2 ≤ sizeLine; decide, fun v2 hv2 => ?_⟩
      have sv2 : Same J19 (L2.upd J19 v2 (.tup [.ref pa, .ref v1])) := Same.new hv2
      have ev2 : (L2.upd J19 v2 (.tup [.ref pa, .ref v1])) v2 = some (.tup [.ref pa, .ref v1]) := upd_same
      have nv2 := Sv1.ne hv2
      generalize L2.upd J19 v2 (.tup [.ref pa, .ref v1]) = J20 at sv2 ev2 ⊢
      have Sv2 := Sv1.but sv2
      refine ⟨_, rfl, _, rfl, _, rfl, by show 3 ≤ sizeLine; decide, fun v3 hv3 => ?_⟩
      have sv3 : Same J20 (L2.upd J20 v3 (.tup [.ref pa, .str z, .str z])) := Same.new hv3
      have ev3 : (L2.upd J20 v3 (.tup [.ref pa, .str z, .str z])) v3 = some (.tup [.ref pa, .str z, .str z]) := upd_same
      have nv3 := Sv2.ne hv3
      generalize L2.upd J20 v3 (.tup [.ref pa, .str z, .str z]) = J21 at sv3 ev3 ⊢
      have Sv3 := Sv2.but sv3
      refine ⟨_, rfl, by show 1 ≤ sizeLine; decide, fun v4 hv4 => ?_⟩
      have sv4 : Same J21 (L2.upd J21 v4 (.tup [.ref pa])) := Same.new hv4
      have ev4 : (L2.upd J21 v4 (.tup [.ref pa])) v4 = some (.tup [.ref pa]) := upd_same
      have nv4 := Sv3.ne hv4
      generalize L2.upd J21 v4 (.tup [.ref pa]) = J22 at sv4 ev4 ⊢
      have Sv4 := Sv3.but sv4
      refine ⟨_, rfl, by show 2 ≤ sizeLine; decide, fun v5 hv5 => ?_⟩
      have sv5 : Same J22 (L2.upd J22 v5 (.tup [.ref pa, .non])) := Same.new hv5
      have ev5 : (L2.upd J22 v5 (.tup [.ref pa, .non])) v5 = some (.tup [.ref pa, .non]) := upd_same
      have nv5 := Sv4.ne hv5
      generalize L2.upd J22 v5 (.tup [.ref pa, .non]) = J23 at sv5 ev5 ⊢
      have Sv5 := Sv4.but sv5
      have epc := (su1.trans (su2.trans (su3.trans (su4.trans (su5.trans (su6.trans (su7.trans (sm1.trans (sq1.trans (sv1.trans (sv2.trans (sv3.trans (sv4.trans sv5))))))))))))) _ _ ep
      refine ⟨_, rfl, _, rfl, pa, pa, _, _, rfl, rfl, SqT.of epc, SqT.of epc, (fun z => nomatch z), by show 4 ≤ sizeLine; decide, (fun z => nomatch z), fun _ => ?_⟩
      intro v6 hv6
      have sv6 : Same J23 (L2.upd J23 v6 (.tup ([.str pu, .str pv'] ++ [.str pu, .str pv']))) := Same.new hv6
      have ev6 : (L2.upd J23 v6 (.tup ([.str pu, .str pv'] ++ [.str pu, .str pv']))) v6 = some (.tup ([.str pu, .str pv'] ++ [.str pu, .str pv'])) := upd_same
      have nv6 := Sv5.ne hv6
      generalize L2.upd J23 v6 (.tup ([.str pu, .str pv'] ++ [.str pu, .str pv'])) = J24 at sv6 ev6 ⊢
      have Sv6 := Sv5.but sv6
      refine ⟨_, rfl, by show 2 ≤ sizeLine; decide, fun v7 hv7 => ?_⟩
      have sv7 : Same J24 (L2.upd J24 v7 (.tup [.ref v6, .str z])) := Same.new hv7
      have ev7 : (L2.upd J24 v7 (.tup [.ref v6, .str z])) v7 = some (.tup [.ref v6, .str z]) := upd_same
      have nv7 := Sv6.ne hv7
      generalize L2.upd J24 v7 (.tup [.ref v6, .str z]) = J25 at sv7 ev7 ⊢
      have Sv7 := Sv6.but sv7
      refine ⟨_, rfl, _, rfl, z, _, rfl, rfl, by have := zok.most; rw [sizeLine_eq]; show z.length + 1 ≤ _; omega, by show 2 ≤ sizeLine; decide, fun v8 hv8 => ?_⟩
      have sv8 : Same J25 (L2.upd J25 v8 (.tup [.ref pa, .str (z ++ (" " : Str))])) := Same.new hv8
      have ev8 : (L2.upd J25 v8 (.tup [.ref pa, .str (z ++ (" " : Str))])) v8 = some (.tup [.ref pa, .str (z ++ (" " : Str))]) := upd_same
      have nv8 := Sv7.ne hv8
      generalize L2.upd J25 v8 (.tup [.ref pa, .str (z ++ (" " : Str))]) = J26 at sv8 ev8 ⊢
      have Sv8 := Sv7.but sv8
      refine ⟨by show 6 ≤ sizeLine; decide, fun m2 hm2 => ?_⟩
      have sm2 : Same J26 (L2.upd J26 m2 (.lst [.ref v2, .ref v3, .ref v4, .ref v5, .ref v7, .ref v8])) := Same.new hm2
      have em2 : (L2.upd J26 m2 (.lst [.ref v2, .ref v3, .ref v4, .ref v5, .ref v7, .ref v8])) m2 = some (.lst [.ref v2, .ref v3, .ref v4, .ref v5, .ref v7, .ref v8]) := upd_same
      have nm2 := Sv8.ne hm2
      generalize L2.upd J26 m2 (.lst [.ref v2, .ref v3, .ref v4, .ref v5, .ref v7, .ref v8]) = J27 at sm2 em2 ⊢
      have Sm2 := Sv8.but sm2
      have wq1 := (sv1.trans (sv2.trans (sv3.trans (sv4.trans (sv5.trans (sv6.trans (sv7.trans (sv8.trans sm2)))))))) _ _ eq1
      refine ⟨q1, m2, _, _, rfl, rfl, wq1, em2, by simp only [List.length_append, List.length_cons, List.length_nil]; rw [sizeLine_eq]; omega, fun q2 hq2 => ?_⟩
      have sq2 : Same J27 (L2.upd J27 q2 (.lst ((xs ++ [.ref u1, .ref u2, .ref u4, .ref u5, .ref u7]) ++ [.ref v2, .ref v3, .ref v4, .ref v5, .ref v7, .ref v8]))) := Same.new hq2
      have eq2 : (L2.upd J27 q2 (.lst ((xs ++ [.ref u1, .ref u2, .ref u4, .ref u5, .ref u7]) ++ [.ref v2, .ref v3, .ref v4, .ref v5, .ref v7, .ref v8]))) q2 = some (.lst ((xs ++ [.ref u1, .ref u2, .ref u4, .ref u5, .ref u7]) ++ [.ref v2, .ref v3, .ref v4, .ref v5, .ref v7, .ref v8])) := upd_same
      have nq2 := Sm2.ne hq2
      generalize L2.upd J27 q2 (.lst ((xs ++ [.ref u1, .ref u2, .ref u4, .ref u5, .ref u7]) ++ [.ref v2, .ref v3, .ref v4, .ref v5, .ref v7, .ref v8])) = J28 at sq2 eq2 ⊢
      have Sq2 := Sm2.but sq2
      have s2F : Same H2 J28 := (su1.trans (su2.trans (su3.trans (su4.trans (su5.trans (su6.trans (su7.trans (sm1.trans (sq1.trans (sv1.trans (sv2.trans (sv3.trans (sv4.trans (sv5.trans (sv6.trans (sv7.trans (sv8.trans (sm2.trans sq2))))))))))))))))))
      have wu1 := (su2.trans (su3.trans (su4.trans (su5.trans (su6.trans (su7.trans (sm1.trans (sq1.trans (sv1.trans (sv2.trans (sv3.trans (sv4.trans (sv5.trans (sv6.trans (sv7.trans (sv8.trans (sm2.trans sq2))))))))))))))))) _ _ eu1
      have wu2 := (su3.trans (su4.trans (su5.trans (su6.trans (su7.trans (sm1.trans (sq1.trans (sv1.trans (sv2.trans (sv3.trans (sv4.trans (sv5.trans (sv6.trans (sv7.trans (sv8.trans (sm2.trans sq2)))))))))))))))) _ _ eu2
      have wu3 := (su4.trans (su5.trans (su6.trans (su7.trans (sm1.trans (sq1.trans (sv1.trans (sv2.trans (sv3.trans (sv4.trans (sv5.trans (sv6.trans (sv7.trans (sv8.trans (sm2.trans sq2))))))))))))))) _ _ eu3
      have wu4 := (su5.trans (su6.trans (su7.trans (sm1.trans (sq1.trans (sv1.trans (sv2.trans (sv3.trans (sv4.trans (sv5.trans (sv6.trans (sv7.trans (sv8.trans (sm2.trans sq2)))))))))))))) _ _ eu4
      have wu5 := (su6.trans (su7.trans (sm1.trans (sq1.trans (sv1.trans (sv2.trans (sv3.trans (sv4.trans (sv5.trans (sv6.trans (sv7.trans (sv8.trans (sm2.trans sq2))))))))))))) _ _ eu5
      have wu6 := (su7.trans (sm1.trans (sq1.trans (sv1.trans (sv2.trans (sv3.trans (sv4.trans (sv5.trans (sv6.trans (sv7.trans (sv8.trans (sm2.trans sq2)))))))))))) _ _ eu6
      have wu7 := (sm1.trans (sq1.trans (sv1.trans (sv2.trans (sv3.trans (sv4.trans (sv5.trans (sv6.trans (sv7.trans (sv8.trans (sm2.trans sq2))))))))))) _ _ eu7
      have wv1 := (sv2.trans (sv3.trans (sv4.trans (sv5.trans (sv6.trans (sv7.trans (sv8.trans (sm2.trans sq2)))))))) _ _ ev1
      have wv2 := (sv3.trans (sv4.trans (sv5.trans (sv6.trans (sv7.trans (sv8.trans (sm2.trans sq2))))))) _ _ ev2
      have wv3 := (sv4.trans (sv5.trans (sv6.trans (sv7.trans (sv8.trans (sm2.trans sq2)))))) _ _ ev3
      have wv4 := (sv5.trans (sv6.trans (sv7.trans (sv8.trans (sm2.trans sq2))))) _ _ ev4
      have wv5 := (sv6.trans (sv7.trans (sv8.trans (sm2.trans sq2)))) _ _ ev5
      have wv6 := (sv7.trans (sv8.trans (sm2.trans sq2))) _ _ ev6
      have wv7 := (sv8.trans (sm2.trans sq2)) _ _ ev7
      have wv8 := (sm2.trans sq2) _ _ ev8
      have wp := s2F _ _ ep
      have oE : Od (hide a J28) (.ref pa) (.tuple [.str pu, .str pv']) := odT pna wp (.cons (.str _) (.cons (.str _) .nil))
      refine ⟨q2, _, _, _, rfl, Sq2, B02.trans (But.of_same s2F), eq2, nq2, by simp only [List.length_append, List.length_cons, List.length_nil]; omega, fun x hx => ?_⟩
      rcases List.mem_append.mp hx with hx | hx
      · rcases List.mem_append.mp hx with hx | hx
        · exact (okx2 x hx).same s2F
        · simp only [List.mem_cons, List.not_mem_nil, or_false] at hx
          rcases hx with rfl | rfl | rfl | rfl | rfl
          · exact ⟨_, odT nu1 wu1 (.cons oE (.cons (.str _) .nil)), noC_off (by simp)⟩
          · exact ⟨_, odT nu2 wu2 (.cons oE (.cons (.str _) .nil)), noC_off (by simp)⟩
          · exact ⟨_, odT nu4 wu4 (.cons (odT nu3 wu3 (.cons (.str _) (.cons (.str _) .nil))) (.cons (.str _) .nil)), noC_ed (ed_notlt (ltS_asymm eo.2.2))⟩
          · exact ⟨_, odL nu5 wu5 (.cons oE (.cons (.str _) .nil)), noC_list _ _⟩
          · exact ⟨_, odT nu7 wu7 (.cons (odL nu6 wu6 (.cons (.str _) (.cons (.str _) .nil))) (.cons (.str _) .nil)), noC_ed fun _ => rfl⟩
      · simp only [List.mem_cons, List.not_mem_nil, or_false] at hx
        rcases hx with rfl | rfl | rfl | rfl | rfl | rfl
        · exact ⟨_, odT nv2 wv2 (.cons oE (.cons (odL nv1 wv1 (.cons (.str _) .nil)) .nil)), noC_am rfl⟩
        · exact ⟨_, odT nv3 wv3 (.cons oE (.cons (.str _) (.cons (.str _) .nil))), fun _ => rfl⟩
        · exact ⟨_, odT nv4 wv4 (.cons oE .nil), fun _ => rfl⟩
        · exact ⟨_, odT nv5 wv5 (.cons oE (.cons .non .nil)), noC_am rfl⟩
        · exact ⟨_, odT nv7 wv7 (.cons (odT nv6 wv6 (.cons (.str _) (.cons (.str _) (.cons (.str _) (.cons (.str _) .nil))))) (.cons (.str _) .nil)), noC_ed fun _ => rfl⟩
        · exact ⟨_, odT nv8 wv8 (.cons oE (.cons (.str _) .nil)), noC_am (decide_eq_false (blank_out gnm z))⟩
    · rintro σ H1 ⟨l, xs, v4, v5, rfl, S1, B1, hl, la, lx, okx⟩
      rw [List.length_map] at lx
      exact ⟨_, rfl, k l xs H1 hl (by omega) okx S1 ((But.of_same s0B).trans B1)⟩
end
end CP
/-! list + list, the first one given from outside -/
namespace CP
open PySem PySem.Spec PyProof.Rows L2
def rCatL (K : PySem.W.Frag) : R2 := fun x y H Q => ∃ l b xs zs, x = .ref l ∧ y = .ref b ∧ SqL K H l xs ∧ SqL K H b zs ∧ xs.length + zs.length ≤ sizeLine ∧ ∀ p, H p = none → Q (.ref p) (L2.upd H p (.lst (xs ++ zs)))
theorem op_catL {X : Cx} : OpR X (binaryOp .Add) (rCatL X.K) := by
  intro pins s σ H x y v u Q I rx ry h
  obtain ⟨l, b, xs, zs, rfl, rfl, hl, hb, hz, q⟩ := h
  cases rx
  cases ry
  obtain ⟨vs, r, ⟨⟨c1, d1, da1, s1⟩, n1, g1, hc1, hd1, hda1⟩, z1⟩ := I.list hl
  obtain ⟨ws, r2, ⟨⟨c2, d2, da2, s2⟩, n2, g2, hc2, hd2, hda2⟩, z2⟩ := I.list hb
  simp only at hc1 hda1 hc2 hda2
  subst hc1 hda1 hc2 hda2
  have lv := r.length
  have lw := r2.length
  refine concat_meets ⟨_, g1, rfl⟩ ⟨_, g2, rfl⟩ noFill_list_add seq_list_add PySem.F.slot_list_add PySem.F.entry_list_add (PySem.F.args_list_add_2 _ _)
    (list_addW l b vs.toArray ws.toArray n1 n2 d1 d2 s1 s2 (by rw [List.size_toArray, List.size_toArray]; omega)) ⟨g1, g2, ?_⟩
  have e : vs.toArray ++ ws.toArray = (vs ++ ws).toArray := by simp
  rw [e]
  exact ⟨.ref _, _, I.lnew (t' := s.toks) (r.append r2) (by rw [List.length_append]; omega), rfl, q _ I.fresh⟩
end CP
namespace CP
open PySem L2
abbrev sLaw : Stmt := top 36
theorem GrAt.but {C a : Addr} {H H' : Hp} {g : Addr} {ns : List Str} {es : List Ed} (S : Src H a) (B : But a H H') (G : GrAt C H g ns es) : GrAt C H' g ns es := by
  obtain ⟨⟨dx, t1, t2, e1, e2, e3⟩, ed⟩ := G
  obtain ⟨x, y, z, q⟩ := id S
  exact ⟨⟨dx, t1, t2, B _ _ (ne_of e1 q (fun z => by cases z)) e1, B _ _ (ne_of e2 q (fun z => by cases z)) e2, B _ _ (ne_of e3 q (fun z => by cases z)) e3⟩, fun p hp => EdAt.but S B (ed p hp)⟩
theorem Same.but {a : Addr} {H0 H H' : Hp} (s : Same H0 H) (h : H0 a = none) (B : But a H H') : Same H0 H' := fun c o e => B c o (ne_of_none e h) (s c o e)
theorem ArgsOk.same {H H' : Hp} {a b : Addr} {ns : List Str} {ks : List Ed} (A : ArgsOk H a b ns ks) (s : Same H H') : ArgsOk H' a b ns ks :=
  ⟨s _ _ A.na, A.n0, A.n8, A.nd, A.nm, s _ _ A.ea, fun p hp => s _ _ (A.ed p hp), A.eo, A.en, A.el⟩
def spLaw (K : PySem.W.Frag) : Sp := fun vs H Q _ => ∃ (a : Addr) (ns : List Int), vs = [.ref a] ∧ SqL K H a (ns.map V.int) ∧ ns.length ≤ 63 ∧ ∀ H', Q (.bl true) H'
theorem eqv_0l : PyData.eqv (.list []) (.list []) = true := PySem.W.eqv_refl_alike _ (by simp [PySem.W.alike, PySem.W.alikeAll])
theorem shp_nil : SeqAt.shaped (.list []) = true := by simp [SeqAt.shaped, PyData.canLay0, PyData.canLayAll0, PyData.depth, PyData.depthAll]
theorem flips_ok {es : List E2} {e : E2} {z : Str} (he : OkE e) (h : ∀ f ∈ es, OkE f) : ∀ p ∈ flipsV es e z, OkP p := fun p hp => by
  obtain ⟨f, hf, rfl⟩ := List.mem_map.mp hp
  have q := h f (List.mem_filter.mp hf).1
  unfold ordP; split
  · exact ⟨he, q⟩
  · exact ⟨q, he⟩
theorem ca_true {ks : List Ed} {ns : List Str} {es : List E2} {p : Ed} {z : Str} (hm : p.2 ∈ es) (eo : EdOk ns p.2) (hz : z ∈ ns) (hn : z ∉ [p.2.1, p.2.2]) : caB ns es (.tuple [.tuple [.str p.2.1, .str p.2.2], .str z]) = true := by
  obtain ⟨a, b, c⟩ := eo
  show (((decide (p.2.1 ∈ ns) && (decide (p.2.2 ∈ ns) && ltS p.2.1 p.2.2)) && decide ((p.2.1, p.2.2) ∈ es)) && (decide (z ∈ ns) && decide (z ∉ [p.2.1, p.2.2]))) = true
  rw [decide_eq_true a, decide_eq_true b, c, decide_eq_true (show (p.2.1, p.2.2) ∈ es from hm), decide_eq_true hz, decide_eq_true hn]; rfl
section
variable {P : Program} {w : World} {K : PySem.W.Frag} {mg : Str → Option Value} {base : Heap}
theorem scLaw : FnScope ["_law_script", "_law_at", "_law_cell", "_law_source", "_law_names", "_law_edges", "_law_graph_here", "_law_edge", "_law_vertex", "_law_due", "_law_told", "_law_value"] ["_law_script"] (defScope sLaw) := ⟨rfl, rfl, rfl, by decide +kernel, rfl, by decide +kernel, by decide +kernel⟩
theorem ok_law {f fS fG fU fC fP fF fO fR fI C Cn : Addr} {fd fdS fdG fdU fdC fdP fdF fdO fdR fdI : FuncData} (F : Fun K "law" "law" sLaw f fd) (T : GTxt K mg C) (mi : mg "isinstance" = none) (ml : mg "list" = none) (me : mg "enumerate" = none) (ms : mg "sorted" = none)
    (mS : mg "_law_source_of" = some (.ref fS)) (GS : FnOk P w K mg base CX0 1 fS fdS ["_law_cell"] spSource) (kS : PySem.W.keepIn K (.ref fS) = true) (bS : Binds K fdS ["_law_cell"] [])
    (mG : mg "_law_graph" = some (.ref fG)) (GG : FnOk P w K mg base CX0 3 fG fdG ["_law_source", "_law_most"] spGraph) (kG : PySem.W.keepIn K (.ref fG) = true) (bG : Binds K fdG ["_law_source", "_law_most"] [])
    (mU : mg "_law_full" = some (.ref fU)) (GU : FnOk P w K mg base CX0 3 fU fdU ["_law_source"] spFull) (kU : PySem.W.keepIn K (.ref fU) = true) (bU : Binds K fdU ["_law_source"] [])
    (mC : mg "_law_carries" = some (.ref fC)) (GC : FnOk P w K mg base CX0 1 fC fdC ["_law_names", "_law_edges"] (spCarries K)) (kC : PySem.W.keepIn K (.ref fC) = true) (bC : Binds K fdC ["_law_names", "_law_edges"] [])
    (mP : mg "_law_flips" = some (.ref fP)) (GP : FnOk P w K mg base CX0 1 fP fdP ["_law_edges", "_law_edge", "_law_vertex"] spFlips) (kP : PySem.W.keepIn K (.ref fP) = true) (bP : Binds K fdP ["_law_edges", "_law_edge", "_law_vertex"] [])
    (mF : mg "flipped" = some (.ref fF)) (GF : FnOk P w K mg base (L2.CX P w) 5 fF fdF ["graph", "carry"] (spFlipped C Cn)) (kF : PySem.W.keepIn K (.ref fF) = true) (bF : Binds K fdF ["graph", "carry"] [])
    (mO : mg "_law_odd_values" = some (.ref fO)) (GO : FnOk P w K mg base CX0 3 fO fdO ["_law_source", "_law_names", "_law_edges"] spOdd) (kO : PySem.W.keepIn K (.ref fO) = true) (bO : Binds K fdO ["_law_source", "_law_names", "_law_edges"] [])
    (mR : mg "_law_refused" = some (.ref fR)) (GR : FnOk P w K mg base CX0 6 fR fdR ["_law_graph_here", "_law_value"] (spRefused C)) (kR : PySem.W.keepIn K (.ref fR) = true) (bR : Binds K fdR ["_law_graph_here", "_law_value"] [])
    (MI : Mk K C fI) (GI : FnOk P w K mg base CX0 4 fI fdI ["self", "vertices", "edges"] (spInit C)) (bI : Binds K fdI ["self", "vertices", "edges"] []) : FnOk P w K mg base CX0 7 f fd ["_law_script"] (spLaw K) := by
  refine F.ok scLaw (fun vs H Q E h => ?_) (fun cdv A outer s H vs Q E hr h => ?_)
  · obtain ⟨a, ns, rfl, _⟩ := h; rfl
  · obtain ⟨a, sc, rfl, hA, h63, k⟩ := h
    have hr1 : Room 1 _ := hr.mono (by decide)
    have hr3 : Room 3 _ := hr.mono (by decide)
    have hr5 : Room 5 _ := hr.mono (by decide)
    refine ⟨_, pss_cons (ps_for PassesOwn.never rfl (pi_enum (by rfl) me (pa_cons (pe_slice sl_list (pe_op op_catL (pv 0) (pe_lst (pa_cons pe_int (pa_cons pe_int (pa_cons pe_int pa_nil))))) po_none (po_some pe_int)) pa_nil)) (pg_tup rfl (pgs_cons (pg_name (i := 1) scLaw.nd rfl (Or.inl rfl)) (pgs_cons (pg_name (i := 2) scLaw.nd rfl (Or.inl rfl)) pgs_nil)))
        (pss_cons (ps_set (i := 3) scLaw.nd rfl (Or.inl rfl) (pe_call GS hr1 rfl mS kS bS .nil pass0 (pa_cons (pv 2) pa_nil)))
        (pss_cons (ps_asg (pe_call GG hr3 rfl mG kG bG .nil pass0 (pa_cons (pv 3) (pa_cons pe_int pa_nil))) (pg_tup rfl (pgs_cons (pg_name (i := 4) scLaw.nd rfl (Or.inl rfl)) (pgs_cons (pg_name (i := 5) scLaw.nd rfl (Or.inl rfl)) pgs_nil))))
        (pss_cons (ps_if (pt_cmpR op_eq (pv 1) pe_int (nomark _)) (pss_one (ps_asg (pe_call GU hr3 rfl mU kU bU .nil pass0 (pa_cons (pv 3) pa_nil)) (pg_tup rfl (pgs_cons (pg_name (i := 4) scLaw.nd rfl (Or.inl rfl)) (pgs_cons (pg_name (i := 5) scLaw.nd rfl (Or.inl rfl)) pgs_nil))))) pss_nil)
        (pss_cons (ps_set (i := 6) scLaw.nd rfl (Or.inr rfl) (pe_make MI GI hr5 rfl T.mg bI .nil pass0 (pa_cons (pv 4) (pa_cons (pv 5) pa_nil))))
        (pss_cons (ps_for PassesOwn.never rfl (pi_list (pe_call GC hr1 rfl mC kC bC .nil pass0 (pa_cons (pv 4) (pa_cons (pv 5) pa_nil)))) (pg_tup rfl (pgs_cons (pg_name (i := 7) scLaw.nd rfl (Or.inl rfl)) (pgs_cons (pg_name (i := 8) scLaw.nd rfl (Or.inl rfl)) pgs_nil)))
          (pss_cons (ps_set (i := 9) scLaw.nd rfl (Or.inl rfl) (pe_callB (cr_sortP hr.units) (by rfl) ms (by decide +kernel) (pa_cons (pe_call GP hr1 rfl mP kP bP .nil pass0 (pa_cons (pv 5) (pa_cons (pv 7) (pa_cons (pv 8) pa_nil)))) pa_nil)))
          (pss_cons (ps_set (i := 10) scLaw.nd rfl (Or.inl rfl) (pe_call GF hr5 rfl mF kF bF .nil passL (pa_cons (pv 6) (pa_cons (pe_tup (pa_cons (pv 7) (pa_cons (pv 8) pa_nil))) pa_nil))))
          (pss_cons (ps_if (PW.pt (pw_or (pt_cmpR (op_neD hr.units) (pv 10) (pv 9) (nomark _)) (pw_or1 (pt_not (pt_val (pe_callB call_isi (by rfl) mi (by decide +kernel) (pa_cons (pv 10) (pa_cons (pe_bltn (v := .ty "list") (by rfl) ml (by decide +kernel) rfl) pa_nil)))))))) (pss_one (ps_ret pe_bl)) pss_nil)
          (pss_cons (ps_expr (pe_bm PySem.F.plainAttrs_list PySem.F.slot_list_append PySem.F.type_list_append mt_append (pv 10) (pa_cons pe_non pa_nil)))
          (pss_one (ps_if (pt_cmpR (op_neD hr.units) (pe_call GF hr5 rfl mF kF bF .nil passL (pa_cons (pv 6) (pa_cons (pe_tup (pa_cons (pv 7) (pa_cons (pv 8) pa_nil))) pa_nil))) (pv 9) (nomark _)) (pss_one (ps_ret pe_bl)) pss_nil)))))))
        (pss_one (ps_if (pt_cmpR (op_neD hr.units) (pe_lc (own := [("_law_value", 11)]) (g := gName 11) rfl scLaw.nd (pi_list (pe_call GO hr3 rfl mO kO bO .nil pass0 (pa_cons (pv 3) (pa_cons (pv 4) (pa_cons (pv 5) pa_nil)))))
            (blkOk_by (own := [("_law_value", 11)]) (N := ["_law_script", "_law_at", "_law_cell", "_law_source", "_law_names", "_law_edges", "_law_graph_here", "_law_edge", "_law_vertex", "_law_due", "_law_told", "_law_value"]) (sc := defScope sLaw) (by decide +kernel))
            (fun _ _ _ _ _ => pg_name (i := 11) scLaw.nd rfl (Or.inl rfl)) (fun _ _ _ _ _ => pts_one (pt_not (pt_val (pe_call GR hr rfl mR kR bR .nil pass0 (pa_cons (pv 6) (pa_cons (pv 11) pa_nil)))))) (fun _ _ _ _ _ => pv 11)) (pe_lst pa_nil) (nomark _)) (pss_one (ps_ret pe_bl)) pss_nil))))))))
      (pss_one (ps_ret pe_bl)), ?_⟩
    refine ⟨_, rfl, by show 3 ≤ sizeLine; decide, fun l1 hl1 => ?_⟩
    have s1 : Same H (L2.upd H l1 (.lst [.int 0, .int 1, .int 2])) := Same.new hl1
    refine ⟨a, l1, _, _, rfl, rfl, s1.seq hA, SqL.of upd_same, by rw [List.length_map, sizeLine_eq]; show sc.length + 3 ≤ _; omega, fun l2 hl2 => ?_⟩
    refine ⟨_, rfl, l2, _, rfl, SqL.of upd_same, fun l3 hl3 => ?_⟩
    have ec : cutV (sc.map V.int ++ [.int 0, .int 1, .int 2]) none (some 8) = ((sc ++ [0, 1, 2]).take (8 : Int).toNat).map V.int := by
      rw [cut_take _ _ (by decide), List.map_take, List.map_append]; rfl
    rw [ec]
    generalize (sc ++ [0, 1, 2]).take (8 : Int).toNat = cl
    generalize hH0 : L2.upd _ l3 (.lst (cl.map V.int)) = H0
    have L0 : H0 l3 = some (.lst (cl.map V.int)) := by rw [← hH0]; exact upd_same
    refine ⟨l3, _, rfl, SqL.of L0, for_it (walk_enum (K := K) (a := l3) (xs := cl.map V.int)) (fun i σ H' => (∃ v1 v2 v3 v4 v5 v6 v7 v8 v9 v10, σ = [some (.ref a), v1, v2, v3, v4, v5, v6, v7, v8, v9, v10, none]) ∧ Same H0 H')
      ⟨⟨_, _, _, _, _, _, _, _, _, _, rfl⟩, Same.refl _⟩ (fun i σ H' _ ⟨_, s⟩ => SqL.of (s _ _ L0)) ?_ ?_⟩
    · rintro i x σ H1 Hz hi ⟨⟨v1, v2, v3, v4, v5, v6, v7, v8, v9, v10, rfl⟩, s01⟩ ⟨q, x1, y1, rfl, hq, rfl, hx, hy⟩
      obtain rfl : V.int (i : Nat) = x1 := Option.some.inj hx
      obtain ⟨c, rfl⟩ : ∃ c, y1 = V.int c := by
        have hy : (cl.map V.int)[i]? = some y1 := hy
        rw [List.getElem?_map] at hy
        cases e : cl[i]? with
        | none => rw [e] at hy; cases hy
        | some c => rw [e] at hy; exact ⟨c, (Option.some.inj hy).symm⟩
      have s1b : Same H1 (L2.upd H1 q (.tup [.int (i : Nat), .int c])) := Same.new hq
      have q1b : (L2.upd H1 q (.tup [.int (i : Nat), .int c])) q = some (.tup [.int (i : Nat), .int c]) := upd_same
      generalize L2.upd H1 q (.tup [.int (i : Nat), .int c]) = H1b at s1b q1b ⊢
      have s01b := s01.trans s1b
      refine ⟨q, _, rfl, SqT.of q1b, rfl, _, _, rfl, _, _, rfl, rfl, ?_⟩
      refine ⟨_, rfl, c, rfl, fun p H2 hp S2 s12 => ?_⟩
      have p0 : H0 p = none := s01b.free hp
      have s02 := s01b.trans s12
      refine ⟨_, rfl, p, rfl, S2, fun t n e ns ks H3 ht A3 nsub hn he S3 B3 => ?_⟩
      have s03 : Same H0 H3 := Same.but s02 p0 B3
      have np := S2.ne hn
      have ep := S2.ne he
      refine ⟨t, _, rfl, SqT.of ht, rfl, _, _, rfl, _, _, rfl, rfl, ?_⟩
      refine ⟨_, rfl, rfl, _, rfl, ite2 (fun _ => ?_) (fun _ => ?_)⟩
      · refine ⟨_, rfl, p, rfl, S3, fun t' n' e' ns' ks' H4 ht' A4 nsub' hn' he' S4 B4 => ⟨t', _, rfl, SqT.of ht', rfl, _, _, rfl, _, _, rfl, rfl, ?_⟩⟩
        have s04 : Same H0 H4 := Same.but s03 p0 B4
        have np' := S3.ne hn'
        have ep' := S3.ne he'
        obtain ⟨na, n0, n8, nd, nm, eaA, ed, eo, en, el⟩ := id A4
        refine ⟨_, rfl, _, rfl, fun g dx hg hdx gdx => ?_⟩
        have sg : Same H4 (L2.upd (L2.upd H4 dx (.own g)) g (.ins C dx [])) := fun b o x => by rw [upd_ne (ne_of_none x hg), upd_ne (ne_of_none x hdx)]; exact x
        refine ⟨g, dx, n', e', ns', ks', rfl, upd_same, A4.same sg, fun H5 G5 k5 => ⟨rfl, ?_⟩⟩
        have s45 : Same H4 H5 := Same.made hg hdx fun c o x n => k5 c o n x
        have S5 := S4.but s45
        have A5 := A4.same s45
        have en' : ((sortE ks').map (·.2)).Pairwise (fun e f => ltE e f = true) := List.pairwise_map.mpr (sortE_lt en)
        have few : (sortE ks').length < 1000 := by rw [(sortE_perm ks').length_eq]; omega
        refine ⟨_, rfl, _, rfl, n', e', ns', ks', rfl, A5.na, n8, A5.ea, A5.ed, el, fun l H6 hl hcs s56 => ?_⟩
        obtain ⟨cs, c1, c2, c3⟩ := hcs
        have s06 := (s04.trans s45).trans s56
        refine ⟨l, rfl, ⟨_, SqL.of c1⟩, for_list (K := K) (a := l) (xs := cs.map V.ref) (fun j σ H' => (∃ w7 w8 w9 w10, σ = [some (.ref a), some (.int (i : Nat)), some (.int c), some (.ref p), some (.ref n'), some (.ref e'), some (.ref g), w7, w8, w9, w10, none]) ∧ Same H6 H') ⟨⟨_, _, _, _, rfl⟩, Same.refl _⟩ (fun j σ H' _ ⟨_, s⟩ => SqL.of (s _ _ c1)) ?_ ?_⟩
        · rintro j x σ H7 hj ⟨⟨w7, w8, w9, w10, rfl⟩, s67⟩
          have lj : j < cs.length := by have := (List.getElem?_eq_some_iff.mp hj).1; rw [List.length_map] at this; exact this
          rw [List.getElem?_map, List.getElem?_eq_getElem lj] at hj
          obtain rfl : V.ref cs[j] = x := Option.some.inj hj
          obtain ⟨⟨qa, qu, qv⟩, z, q1, q2, q3, q4, q5⟩ := ((c3 _ (List.getElem_mem lj)).same s67).ex
          have s57 := s56.trans s67
          have oke : OkE (qu, qv) := ⟨(nm _ (eo _ q3).1).strOk, (nm _ (eo _ q3).2.1).strOk⟩
          have okes : ∀ f ∈ ks'.map (·.2), OkE f := fun f hf => by
            obtain ⟨r, hr, rfl⟩ := List.mem_map.mp hf
            exact ⟨(nm _ (eo r hr).1).strOk, (nm _ (eo r hr).2.1).strOk⟩
          refine ⟨cs[j], _, rfl, SqT.of q1, rfl, _, _, rfl, _, _, rfl, rfl, ?_⟩
          refine ⟨_, rfl, _, rfl, _, rfl, e', qa, ks', qu, qv, z, rfl, s57 _ _ A5.ea, fun r hr => s57 _ _ (A5.ed r hr), by omega, q2, fun l2 H8 hl2 R8 s78 => ?_⟩
          obtain ⟨qs, r1, r2, r3⟩ := R8
          have fl : (flipsV (ks'.map (·.2)) (qu, qv) z).length ≤ 18 := by
            unfold flipsV; rw [List.length_map]
            exact Nat.le_trans (List.length_filter_le _ _) (by rw [List.length_map]; exact el)
          have ql : qs.length ≤ 18 := by have := congrArg List.length r3; rw [List.length_map] at this; omega
          refine ⟨l2, qs, rfl, r1, r2, by omega, fun l3' hl3' => ?_⟩
          have s8d : Same H8 (L2.upd H8 l3' (.lst ((sortP qs).map fun p => V.ref p.1))) := Same.new hl3'
          have D9 : PrsAt (L2.upd H8 l3' (.lst ((sortP qs).map fun p => V.ref p.1))) l3' ((sortP qs).map prV) := ⟨sortP qs, upd_same, fun r hr => (r2 r ((sortP_perm qs).mem_iff.mp hr)).same s8d, rfl⟩
          generalize L2.upd H8 l3' (.lst ((sortP qs).map fun p => V.ref p.1)) = H9 at s8d D9 ⊢
          have ndF : (flipsV (ks'.map (·.2)) (qu, qv) z).Nodup := flips_nd en
          have ltD : ((sortP qs).map prV).Pairwise (fun p q => ltP p q = true) := sortP_lt (by rw [r3]; exact ndF)
          have pmD : ((sortP qs).map prV).Perm (flipsV (ks'.map (·.2)) (qu, qv) z) := by rw [← r3]; exact (sortP_perm qs).map prV
          have okD : ∀ x ∈ (sortP qs).map prV, OkP x := fun x hx => flips_ok oke okes x (pmD.mem_iff.mp hx)
          have shp := pDs_shaped okD
          generalize (sortP qs).map prV = due at D9 ltD pmD okD shp
          have dl : due.length ≤ 18 := by rw [pmD.length_eq]; exact fl
          have s79 := s78.trans s8d
          have s59 := s57.trans s79
          have ca : caB ns' ((sortE ks').map (·.2)) (.tuple [.tuple [.str qu, .str qv], .str z]) = true := ca_true (ks := ks') (p := (qa, qu, qv)) (List.mem_map.mpr ⟨_, (sortE_perm ks').mem_iff.mpr q3, rfl⟩) (eo _ q3) q4 q5
          have same : ∀ {ps : List (E2 × E2)}, ps.Perm (flipsV ((sortE ks').map (·.2)) (qu, qv) z) → ps.Pairwise (fun p q => ltP p q = true) → ps = due := fun pm lt => ascP_unique ((pm.trans (flips_perm ((sortE_perm ks').map _))).trans pmD.symm) lt ltD
          refine ⟨_, rfl, _, rfl, _, rfl, by show 2 ≤ sizeLine; decide, fun t3 ht3 => ?_⟩
          have sT : Same H9 (L2.upd H9 t3 (.tup [.ref qa, .str z])) := Same.new ht3
          have eT : (L2.upd H9 t3 (.tup [.ref qa, .str z])) t3 = some (.tup [.ref qa, .str z]) := upd_same
          generalize L2.upd H9 t3 (.tup [.ref qa, .str z]) = HT at sT eT ⊢
          refine ⟨g, ns', sortE ks', .ref t3, .tuple [.tuple [.str qu, .str qv], .str z], rfl, G5.same (s59.trans sT), few, en', .tup eT (.cons (.tup ((s79.trans sT) _ _ q2) (.cons (.str _) (.cons (.str _) .nil))) (.cons (.str _) .nil)), (fun h => by rw [ca] at h; cases h), fun u v z' e _ l4 ps HU hl4 RU pm lt sU => ?_⟩
          cases e
          obtain rfl := same pm lt
          have DU := (D9.kept sT).kept sU
          refine ⟨_, rfl, _, rfl, _, _, RU.dp, DU.dp, shp, shp, _, rfl, ?_⟩
          rw [eqv_pDs]
          obtain ⟨us, t1, t2, t3'⟩ := id RU
          refine iteF ⟨_, rfl, _, _, .type "list", _, true, rfl, .ty _, .base (.lst t1), kit_ty (by decide +kernel), _, rfl, iteF ?_⟩
          have n4 : H9 l4 = none := sT.free hl4
          have ul : us.length ≤ 18 := by have := congrArg List.length t3'; rw [List.length_map] at this; omega
          refine ⟨_, rfl, .inl ⟨rfl, _, SqL.of t1⟩, l4, _, _, rfl, rfl, t1, by rw [List.length_map, sizeLine_eq]; omega, ?_⟩
          have sV : Same H9 (L2.upd HU l4 (.lst ((us.map fun p => V.ref p.1) ++ [.non]))) := Same.grow n4 (sT.trans sU)
          generalize L2.upd HU l4 (.lst ((us.map fun p => V.ref p.1) ++ [.non])) = HV at sV ⊢
          refine ⟨_, rfl, _, rfl, _, rfl, by show 2 ≤ sizeLine; decide, fun t5 ht5 => ?_⟩
          have sW : Same HV (L2.upd HV t5 (.tup [.ref qa, .str z])) := Same.new ht5
          have eW : (L2.upd HV t5 (.tup [.ref qa, .str z])) t5 = some (.tup [.ref qa, .str z]) := upd_same
          generalize L2.upd HV t5 (.tup [.ref qa, .str z]) = HW at sW eW ⊢
          refine ⟨g, ns', sortE ks', .ref t5, .tuple [.tuple [.str qu, .str qv], .str z], rfl, G5.same (s59.trans (sV.trans sW)), few, en', .tup eW (.cons (.tup ((s79.trans (sV.trans sW)) _ _ q2) (.cons (.str _) (.cons (.str _) .nil))) (.cons (.str _) .nil)), (fun h => by rw [ca] at h; cases h), fun u v z' e _ l5 ps2 HX hl5 RX pm2 lt2 sX => ?_⟩
          cases e
          obtain rfl := same pm2 lt2
          have DX := ((D9.kept sV).kept sW).kept sX
          refine ⟨_, rfl, _, _, RX.dp, DX.dp, shp, shp, _, rfl, ?_⟩
          rw [eqv_pDs]
          exact iteF ⟨⟨_, _, _, _, rfl⟩, s67.trans (s79.trans (sV.trans (sW.trans sX)))⟩
        · rintro σ H7 ⟨⟨w7, w8, w9, w10, rfl⟩, s67⟩
          have s57 := s56.trans s67
          have S7 := S5.but s57
          refine ⟨_, rfl, _, rfl, _, rfl, p, n', e', ns', ks', rfl, S7, np', ep', A5.same s57, nsub', fun l4 xs H8 hl4 hx okv S8 B8 => ?_⟩
          have G8 : GrAt C H8 g ns' (sortE ks') := (G5.same s57).but S7 B8
          refine ⟨l4, rfl, ⟨_, SqL.of hl4⟩, fun D hD => lc_list (K := K) (a := l4) (xs := xs) (fun j H' => Same H8 H' ∧ H' D = some (.lst [])) ⟨Same.new hD, upd_same⟩ (fun j H' _ ⟨s, _⟩ => SqL.of (s _ _ hl4)) ?_ ?_⟩
          · rintro j x H9 hj ⟨s89, eD⟩
            obtain ⟨d, o, nc⟩ := okv x (List.mem_of_getElem? hj)
            refine ⟨rfl, _, rfl, _, rfl, g, ns', sortE ks', x, d, rfl, G8.same s89, few, en', (o.same hide_same).same s89, nc _, fun HA s9A => ⟨_, rfl, iteF ⟨s89.trans s9A, s9A _ _ eD⟩⟩⟩
          · rintro H9 ⟨s89, eD⟩
            refine ⟨by show 0 ≤ sizeLine; decide, fun m hm => ?_⟩
            have sM : Same H9 (L2.upd H9 m (.lst [])) := Same.new hm
            refine ⟨_, _, .lst (SqL.of (sM _ _ eD)) .nil, .lst (SqL.of upd_same) .nil, shp_nil, shp_nil, _, rfl, ?_⟩
            rw [eqv_0l]
            exact iteF ⟨⟨_, _, _, _, _, _, _, _, _, _, rfl⟩, (Same.but (s06.trans s67) p0 B8).trans (s89.trans sM)⟩
      · revert n e ns ks H3
        intro n' e' ns' ks' H4 ht' A4 nsub' hn' he' S4 B4 s04 np' ep'
        obtain ⟨na, n0, n8, nd, nm, eaA, ed, eo, en, el⟩ := id A4
        refine ⟨_, rfl, _, rfl, fun g dx hg hdx gdx => ?_⟩
        have sg : Same H4 (L2.upd (L2.upd H4 dx (.own g)) g (.ins C dx [])) := fun b o x => by rw [upd_ne (ne_of_none x hg), upd_ne (ne_of_none x hdx)]; exact x
        refine ⟨g, dx, n', e', ns', ks', rfl, upd_same, A4.same sg, fun H5 G5 k5 => ⟨rfl, ?_⟩⟩
        have s45 : Same H4 H5 := Same.made hg hdx fun c o x n => k5 c o n x
        have S5 := S4.but s45
        have A5 := A4.same s45
        have en' : ((sortE ks').map (·.2)).Pairwise (fun e f => ltE e f = true) := List.pairwise_map.mpr (sortE_lt en)
        have few : (sortE ks').length < 1000 := by rw [(sortE_perm ks').length_eq]; omega
        refine ⟨_, rfl, _, rfl, n', e', ns', ks', rfl, A5.na, n8, A5.ea, A5.ed, el, fun l H6 hl hcs s56 => ?_⟩
        obtain ⟨cs, c1, c2, c3⟩ := hcs
        have s06 := (s04.trans s45).trans s56
        refine ⟨l, rfl, ⟨_, SqL.of c1⟩, for_list (K := K) (a := l) (xs := cs.map V.ref) (fun j σ H' => (∃ w7 w8 w9 w10, σ = [some (.ref a), some (.int (i : Nat)), some (.int c), some (.ref p), some (.ref n'), some (.ref e'), some (.ref g), w7, w8, w9, w10, none]) ∧ Same H6 H') ⟨⟨_, _, _, _, rfl⟩, Same.refl _⟩ (fun j σ H' _ ⟨_, s⟩ => SqL.of (s _ _ c1)) ?_ ?_⟩
        · rintro j x σ H7 hj ⟨⟨w7, w8, w9, w10, rfl⟩, s67⟩
          have lj : j < cs.length := by have := (List.getElem?_eq_some_iff.mp hj).1; rw [List.length_map] at this; exact this
          rw [List.getElem?_map, List.getElem?_eq_getElem lj] at hj
          obtain rfl : V.ref cs[j] = x := Option.some.inj hj
          obtain ⟨⟨qa, qu, qv⟩, z, q1, q2, q3, q4, q5⟩ := ((c3 _ (List.getElem_mem lj)).same s67).ex
          have s57 := s56.trans s67
          have oke : OkE (qu, qv) := ⟨(nm _ (eo _ q3).1).strOk, (nm _ (eo _ q3).2.1).strOk⟩
          have okes : ∀ f ∈ ks'.map (·.2), OkE f := fun f hf => by
            obtain ⟨r, hr, rfl⟩ := List.mem_map.mp hf
            exact ⟨(nm _ (eo r hr).1).strOk, (nm _ (eo r hr).2.1).strOk⟩
          refine ⟨cs[j], _, rfl, SqT.of q1, rfl, _, _, rfl, _, _, rfl, rfl, ?_⟩
          refine ⟨_, rfl, _, rfl, _, rfl, e', qa, ks', qu, qv, z, rfl, s57 _ _ A5.ea, fun r hr => s57 _ _ (A5.ed r hr), by omega, q2, fun l2 H8 hl2 R8 s78 => ?_⟩
          obtain ⟨qs, r1, r2, r3⟩ := R8
          have fl : (flipsV (ks'.map (·.2)) (qu, qv) z).length ≤ 18 := by
            unfold flipsV; rw [List.length_map]
            exact Nat.le_trans (List.length_filter_le _ _) (by rw [List.length_map]; exact el)
          have ql : qs.length ≤ 18 := by have := congrArg List.length r3; rw [List.length_map] at this; omega
          refine ⟨l2, qs, rfl, r1, r2, by omega, fun l3' hl3' => ?_⟩
          have s8d : Same H8 (L2.upd H8 l3' (.lst ((sortP qs).map fun p => V.ref p.1))) := Same.new hl3'
          have D9 : PrsAt (L2.upd H8 l3' (.lst ((sortP qs).map fun p => V.ref p.1))) l3' ((sortP qs).map prV) := ⟨sortP qs, upd_same, fun r hr => (r2 r ((sortP_perm qs).mem_iff.mp hr)).same s8d, rfl⟩
          generalize L2.upd H8 l3' (.lst ((sortP qs).map fun p => V.ref p.1)) = H9 at s8d D9 ⊢
          have ndF : (flipsV (ks'.map (·.2)) (qu, qv) z).Nodup := flips_nd en
          have ltD : ((sortP qs).map prV).Pairwise (fun p q => ltP p q = true) := sortP_lt (by rw [r3]; exact ndF)
          have pmD : ((sortP qs).map prV).Perm (flipsV (ks'.map (·.2)) (qu, qv) z) := by rw [← r3]; exact (sortP_perm qs).map prV
          have okD : ∀ x ∈ (sortP qs).map prV, OkP x := fun x hx => flips_ok oke okes x (pmD.mem_iff.mp hx)
          have shp := pDs_shaped okD
          generalize (sortP qs).map prV = due at D9 ltD pmD okD shp
          have dl : due.length ≤ 18 := by rw [pmD.length_eq]; exact fl
          have s79 := s78.trans s8d
          have s59 := s57.trans s79
          have ca : caB ns' ((sortE ks').map (·.2)) (.tuple [.tuple [.str qu, .str qv], .str z]) = true := ca_true (ks := ks') (p := (qa, qu, qv)) (List.mem_map.mpr ⟨_, (sortE_perm ks').mem_iff.mpr q3, rfl⟩) (eo _ q3) q4 q5
          have same : ∀ {ps : List (E2 × E2)}, ps.Perm (flipsV ((sortE ks').map (·.2)) (qu, qv) z) → ps.Pairwise (fun p q => ltP p q = true) → ps = due := fun pm lt => ascP_unique ((pm.trans (flips_perm ((sortE_perm ks').map _))).trans pmD.symm) lt ltD
          refine ⟨_, rfl, _, rfl, _, rfl, by show 2 ≤ sizeLine; decide, fun t3 ht3 => ?_⟩
          have sT : Same H9 (L2.upd H9 t3 (.tup [.ref qa, .str z])) := Same.new ht3
          have eT : (L2.upd H9 t3 (.tup [.ref qa, .str z])) t3 = some (.tup [.ref qa, .str z]) := upd_same
          generalize L2.upd H9 t3 (.tup [.ref qa, .str z]) = HT at sT eT ⊢
          refine ⟨g, ns', sortE ks', .ref t3, .tuple [.tuple [.str qu, .str qv], .str z], rfl, G5.same (s59.trans sT), few, en', .tup eT (.cons (.tup ((s79.trans sT) _ _ q2) (.cons (.str _) (.cons (.str _) .nil))) (.cons (.str _) .nil)), (fun h => by rw [ca] at h; cases h), fun u v z' e _ l4 ps HU hl4 RU pm lt sU => ?_⟩
          cases e
          obtain rfl := same pm lt
          have DU := (D9.kept sT).kept sU
          refine ⟨_, rfl, _, rfl, _, _, RU.dp, DU.dp, shp, shp, _, rfl, ?_⟩
          rw [eqv_pDs]
          obtain ⟨us, t1, t2, t3'⟩ := id RU
          refine iteF ⟨_, rfl, _, _, .type "list", _, true, rfl, .ty _, .base (.lst t1), kit_ty (by decide +kernel), _, rfl, iteF ?_⟩
          have n4 : H9 l4 = none := sT.free hl4
          have ul : us.length ≤ 18 := by have := congrArg List.length t3'; rw [List.length_map] at this; omega
          refine ⟨_, rfl, .inl ⟨rfl, _, SqL.of t1⟩, l4, _, _, rfl, rfl, t1, by rw [List.length_map, sizeLine_eq]; omega, ?_⟩
          have sV : Same H9 (L2.upd HU l4 (.lst ((us.map fun p => V.ref p.1) ++ [.non]))) := Same.grow n4 (sT.trans sU)
          generalize L2.upd HU l4 (.lst ((us.map fun p => V.ref p.1) ++ [.non])) = HV at sV ⊢
          refine ⟨_, rfl, _, rfl, _, rfl, by show 2 ≤ sizeLine; decide, fun t5 ht5 => ?_⟩
          have sW : Same HV (L2.upd HV t5 (.tup [.ref qa, .str z])) := Same.new ht5
          have eW : (L2.upd HV t5 (.tup [.ref qa, .str z])) t5 = some (.tup [.ref qa, .str z]) := upd_same
          generalize L2.upd HV t5 (.tup [.ref qa, .str z]) = HW at sW eW ⊢
          refine ⟨g, ns', sortE ks', .ref t5, .tuple [.tuple [.str qu, .str qv], .str z], rfl, G5.same (s59.trans (sV.trans sW)), few, en', .tup eW (.cons (.tup ((s79.trans (sV.trans sW)) _ _ q2) (.cons (.str _) (.cons (.str _) .nil))) (.cons (.str _) .nil)), (fun h => by rw [ca] at h; cases h), fun u v z' e _ l5 ps2 HX hl5 RX pm2 lt2 sX => ?_⟩
          cases e
          obtain rfl := same pm2 lt2
          have DX := ((D9.kept sV).kept sW).kept sX
          refine ⟨_, rfl, _, _, RX.dp, DX.dp, shp, shp, _, rfl, ?_⟩
          rw [eqv_pDs]
          exact iteF ⟨⟨_, _, _, _, rfl⟩, s67.trans (s79.trans (sV.trans (sW.trans sX)))⟩
        · rintro σ H7 ⟨⟨w7, w8, w9, w10, rfl⟩, s67⟩
          have s57 := s56.trans s67
          have S7 := S5.but s57
          refine ⟨_, rfl, _, rfl, _, rfl, p, n', e', ns', ks', rfl, S7, np', ep', A5.same s57, nsub', fun l4 xs H8 hl4 hx okv S8 B8 => ?_⟩
          have G8 : GrAt C H8 g ns' (sortE ks') := (G5.same s57).but S7 B8
          refine ⟨l4, rfl, ⟨_, SqL.of hl4⟩, fun D hD => lc_list (K := K) (a := l4) (xs := xs) (fun j H' => Same H8 H' ∧ H' D = some (.lst [])) ⟨Same.new hD, upd_same⟩ (fun j H' _ ⟨s, _⟩ => SqL.of (s _ _ hl4)) ?_ ?_⟩
          · rintro j x H9 hj ⟨s89, eD⟩
            obtain ⟨d, o, nc⟩ := okv x (List.mem_of_getElem? hj)
            refine ⟨rfl, _, rfl, _, rfl, g, ns', sortE ks', x, d, rfl, G8.same s89, few, en', (o.same hide_same).same s89, nc _, fun HA s9A => ⟨_, rfl, iteF ⟨s89.trans s9A, s9A _ _ eD⟩⟩⟩
          · rintro H9 ⟨s89, eD⟩
            refine ⟨by show 0 ≤ sizeLine; decide, fun m hm => ?_⟩
            have sM : Same H9 (L2.upd H9 m (.lst [])) := Same.new hm
            refine ⟨_, _, .lst (SqL.of (sM _ _ eD)) .nil, .lst (SqL.of upd_same) .nil, shp_nil, shp_nil, _, rfl, ?_⟩
            rw [eqv_0l]
            exact iteF ⟨⟨_, _, _, _, _, _, _, _, _, _, rfl⟩, (Same.but (s06.trans s67) p0 B8).trans (s89.trans sM)⟩
    · rintro σ H1 ⟨_, _⟩
      exact k H1
end
end CP
namespace CP
open PySem L2
theorem exm_own {K : PySem.W.Frag} {S : Addr} {cd : ClassData} (b : PySem.W.subIn K (.ref S) (.type "BaseException") = some true) (c : PySem.W.clsIn K S = some cd) (t : PySem.W.typeIn K (.ref S) = some (.type "type")) (s : PySem.W.subIn K (.ref S) (.ref S) = some true) : PySem.W.exmOne K (.ref S) (.ref S) = some true := by
  have b' : (PySem.W.subIn K (.ref S) (.type "BaseException") == some true) = true := by rw [b]; rfl
  have t' : ((PySem.W.clsIn K S).isSome && PySem.W.typeIn K (.ref S) == some (.type "type")) = true := by rw [c, t]; rfl
  have r : PySem.W.exmOne K (.ref S) (.ref S) = if (PySem.W.subIn K (.ref S) (.type "BaseException") == some true) = true then (if ((PySem.W.clsIn K S).isSome && PySem.W.typeIn K (.ref S) == some (.type "type")) = true then PySem.W.subIn K (.ref S) (.ref S) else none) else none := rfl
  rw [r, if_pos b', if_pos t']; exact s
set_option maxHeartbeats 4000000 in
theorem all_mk {l : PySem.W.OpenLaw} {w : World} {K : PySem.W.Frag} {h : Heap} {mg : Str → Option Value} {fa C Cn B Cr Ce fAp fRo fCo fNa fVe fEg fAm fJo fIe fCa fFz fFl fSo fNe fOn fMi fGr fFp fCs fRe fOd fFu fLa fIn fI2 : Addr} (X : K.In h) (G : h.Ns mainGlobals mg) (hfa : mg "law" = some (.ref fa))
    {odAp anAp odRo anRo odCo anCo odNa anNa odVe anVe odEg anEg odAm anAm odJo anJo odIe anIe odCa anCa odFz anFz odFl anFl odSo anSo odNe anNe odOn anOn odMi anMi odGr anGr odFp anFp odCs anCs odRe anRe odOd anOd odFu anFu odLa anLa odIn anIn odI2 anI2 : Option Addr} {slAp slRo slCo slNa slVe slEg slAm slJo slIe slCa slFz slFl slSo slNe slOn slMi slGr slFp slCs slRe slOd slFu slLa slIn slI2 : Array (Option Value)} {ocAp kVAp dcAp pmAp cdAp ctAp ocRo kVRo dcRo pmRo cdRo ctRo ocCo kVCo dcCo pmCo cdCo ctCo ocNa kVNa dcNa pmNa cdNa ctNa ocVe kVVe dcVe pmVe cdVe ctVe ocEg kVEg dcEg pmEg cdEg ctEg ocAm kVAm dcAm pmAm cdAm ctAm ocJo kVJo dcJo pmJo cdJo ctJo ocIe kVIe dcIe pmIe cdIe ctIe ocCa kVCa dcCa pmCa cdCa ctCa ocFz kVFz dcFz pmFz cdFz ctFz ocFl kVFl dcFl pmFl cdFl ctFl ocSo kVSo dcSo pmSo cdSo ctSo ocNe kVNe dcNe pmNe cdNe ctNe ocOn kVOn dcOn pmOn cdOn ctOn ocMi kVMi dcMi pmMi cdMi ctMi ocGr kVGr dcGr pmGr cdGr ctGr ocFp kVFp dcFp pmFp cdFp ctFp ocCs kVCs dcCs pmCs cdCs ctCs ocRe kVRe dcRe pmRe cdRe ctRe ocOd kVOd dcOd pmOd cdOd ctOd ocFu kVFu dcFu pmFu cdFu ctFu ocLa kVLa dcLa pmLa cdLa ctLa ocIn kVIn dcIn pmIn cdIn ctIn ocI2 kVI2 dcI2 pmI2 cdI2 ctI2 : Value} {t0 t1 t2 t3 : Tok}
    {nm2 q2 : Str} {N2 : Addr} {bs2 bm2 sub2 : List Value} {sn2 : List Str} {ab2 : Bool} {col2 : Option Bool} {dd2 : Option Addr} {k0_2 k1_2 k2_2 k3_2 k5_2 : Option Value} {cdtN : ClassData}
    (aC : PySem.W.nsIn K mainGlobals "Graph" = some (some (.ref C)))
    (a_Cn : PySem.W.nsIn K mainGlobals "NoCarry" = some (some (.ref Cn)))
    (a_B : PySem.W.nsIn K mainGlobals "ParityError" = some (some (.ref B)))
    (a_Cr : PySem.W.nsIn K mainGlobals "NoRecord" = some (some (.ref Cr)))
    (a_Ce : PySem.W.nsIn K mainGlobals "NoEdge" = some (some (.ref Ce)))
    (aAp : PySem.W.nsIn K mainGlobals "are_apart" = some (some (.ref fAp)))
    (lAp : K.lookup fAp = some ⟨ocAp, odAp, .func (PySem.W.fnOf "are_apart" "are_apart" (defArgs sApart) (defBody sApart) (defScope sApart) .none kVAp dcAp pmAp anAp cdAp ctAp), slAp⟩)
    (cAp : PySem.W.codeIn K cdAp "are_apart" = true)
    (kAp : PySem.W.keepIn K (.ref fAp) = true)
    (aRo : PySem.W.nsIn K mainGlobals "is_row" = some (some (.ref fRo)))
    (lRo : K.lookup fRo = some ⟨ocRo, odRo, .func (PySem.W.fnOf "is_row" "is_row" (defArgs sRow) (defBody sRow) (defScope sRow) .none kVRo dcRo pmRo anRo cdRo ctRo), slRo⟩)
    (cRo : PySem.W.codeIn K cdRo "is_row" = true)
    (kRo : PySem.W.keepIn K (.ref fRo) = true)
    (aCo : PySem.W.nsIn K mainGlobals "is_couple" = some (some (.ref fCo)))
    (lCo : K.lookup fCo = some ⟨ocCo, odCo, .func (PySem.W.fnOf "is_couple" "is_couple" (defArgs sCouple) (defBody sCouple) (defScope sCouple) .none kVCo dcCo pmCo anCo cdCo ctCo), slCo⟩)
    (cCo : PySem.W.codeIn K cdCo "is_couple" = true)
    (kCo : PySem.W.keepIn K (.ref fCo) = true)
    (aNa : PySem.W.nsIn K mainGlobals "is_name" = some (some (.ref fNa)))
    (lNa : K.lookup fNa = some ⟨ocNa, odNa, .func (PySem.W.fnOf "is_name" "is_name" (defArgs sName) (defBody sName) (defScope sName) .none kVNa dcNa pmNa anNa cdNa ctNa), slNa⟩)
    (cNa : PySem.W.codeIn K cdNa "is_name" = true)
    (kNa : PySem.W.keepIn K (.ref fNa) = true)
    (aVe : PySem.W.nsIn K mainGlobals "are_vertices" = some (some (.ref fVe)))
    (lVe : K.lookup fVe = some ⟨ocVe, odVe, .func (PySem.W.fnOf "are_vertices" "are_vertices" (defArgs sVerts) (defBody sVerts) (defScope sVerts) .none kVVe dcVe pmVe anVe cdVe ctVe), slVe⟩)
    (cVe : PySem.W.codeIn K cdVe "are_vertices" = true)
    (kVe : PySem.W.keepIn K (.ref fVe) = true)
    (aEg : PySem.W.nsIn K mainGlobals "are_edges" = some (some (.ref fEg)))
    (lEg : K.lookup fEg = some ⟨ocEg, odEg, .func (PySem.W.fnOf "are_edges" "are_edges" (defArgs sEdges) (defBody sEdges) (defScope sEdges) .none kVEg dcEg pmEg anEg cdEg ctEg), slEg⟩)
    (cEg : PySem.W.codeIn K cdEg "are_edges" = true)
    (kEg : PySem.W.keepIn K (.ref fEg) = true)
    (aAm : PySem.W.nsIn K mainGlobals "is_among" = some (some (.ref fAm)))
    (lAm : K.lookup fAm = some ⟨ocAm, odAm, .func (PySem.W.fnOf "is_among" "is_among" (defArgs sAmong) (defBody sAmong) (defScope sAmong) .none kVAm dcAm pmAm anAm cdAm ctAm), slAm⟩)
    (cAm : PySem.W.codeIn K cdAm "is_among" = true)
    (kAm : PySem.W.keepIn K (.ref fAm) = true)
    (aJo : PySem.W.nsIn K mainGlobals "joins" = some (some (.ref fJo)))
    (lJo : K.lookup fJo = some ⟨ocJo, odJo, .func (PySem.W.fnOf "joins" "joins" (defArgs sJoins) (defBody sJoins) (defScope sJoins) .none kVJo dcJo pmJo anJo cdJo ctJo), slJo⟩)
    (cJo : PySem.W.codeIn K cdJo "joins" = true)
    (kJo : PySem.W.keepIn K (.ref fJo) = true)
    (aIe : PySem.W.nsIn K mainGlobals "is_edge" = some (some (.ref fIe)))
    (lIe : K.lookup fIe = some ⟨ocIe, odIe, .func (PySem.W.fnOf "is_edge" "is_edge" (defArgs sIsEdge) (defBody sIsEdge) (defScope sIsEdge) .none kVIe dcIe pmIe anIe cdIe ctIe), slIe⟩)
    (cIe : PySem.W.codeIn K cdIe "is_edge" = true)
    (kIe : PySem.W.keepIn K (.ref fIe) = true)
    (aCa : PySem.W.nsIn K mainGlobals "is_carry" = some (some (.ref fCa)))
    (lCa : K.lookup fCa = some ⟨ocCa, odCa, .func (PySem.W.fnOf "is_carry" "is_carry" (defArgs sCarry) (defBody sCarry) (defScope sCarry) .none kVCa dcCa pmCa anCa cdCa ctCa), slCa⟩)
    (cCa : PySem.W.codeIn K cdCa "is_carry" = true)
    (kCa : PySem.W.keepIn K (.ref fCa) = true)
    (aFz : PySem.W.nsIn K mainGlobals "flips_of" = some (some (.ref fFz)))
    (lFz : K.lookup fFz = some ⟨ocFz, odFz, .func (PySem.W.fnOf "flips_of" "flips_of" (defArgs sFlips0) (defBody sFlips0) (defScope sFlips0) .none kVFz dcFz pmFz anFz cdFz ctFz), slFz⟩)
    (cFz : PySem.W.codeIn K cdFz "flips_of" = true)
    (kFz : PySem.W.keepIn K (.ref fFz) = true)
    (aFl : PySem.W.nsIn K mainGlobals "flipped" = some (some (.ref fFl)))
    (lFl : K.lookup fFl = some ⟨ocFl, odFl, .func (PySem.W.fnOf "flipped" "flipped" (defArgs sFlipped) (defBody sFlipped) (defScope sFlipped) .none kVFl dcFl pmFl anFl cdFl ctFl), slFl⟩)
    (cFl : PySem.W.codeIn K cdFl "flipped" = true)
    (kFl : PySem.W.keepIn K (.ref fFl) = true)
    (aSo : PySem.W.nsIn K mainGlobals "_law_source_of" = some (some (.ref fSo)))
    (lSo : K.lookup fSo = some ⟨ocSo, odSo, .func (PySem.W.fnOf "_law_source_of" "_law_source_of" (defArgs sSource) (defBody sSource) (defScope sSource) .none kVSo dcSo pmSo anSo cdSo ctSo), slSo⟩)
    (cSo : PySem.W.codeIn K cdSo "_law_source_of" = true)
    (kSo : PySem.W.keepIn K (.ref fSo) = true)
    (aNe : PySem.W.nsIn K mainGlobals "_law_next" = some (some (.ref fNe)))
    (lNe : K.lookup fNe = some ⟨ocNe, odNe, .func (PySem.W.fnOf "_law_next" "_law_next" (defArgs sNext) (defBody sNext) (defScope sNext) .none kVNe dcNe pmNe anNe cdNe ctNe), slNe⟩)
    (cNe : PySem.W.codeIn K cdNe "_law_next" = true)
    (kNe : PySem.W.keepIn K (.ref fNe) = true)
    (aOn : PySem.W.nsIn K mainGlobals "_law_one" = some (some (.ref fOn)))
    (lOn : K.lookup fOn = some ⟨ocOn, odOn, .func (PySem.W.fnOf "_law_one" "_law_one" (defArgs sOne) (defBody sOne) (defScope sOne) .none kVOn dcOn pmOn anOn cdOn ctOn), slOn⟩)
    (cOn : PySem.W.codeIn K cdOn "_law_one" = true)
    (kOn : PySem.W.keepIn K (.ref fOn) = true)
    (aMi : PySem.W.nsIn K mainGlobals "_law_mixed" = some (some (.ref fMi)))
    (lMi : K.lookup fMi = some ⟨ocMi, odMi, .func (PySem.W.fnOf "_law_mixed" "_law_mixed" (defArgs sMixed) (defBody sMixed) (defScope sMixed) .none kVMi dcMi pmMi anMi cdMi ctMi), slMi⟩)
    (cMi : PySem.W.codeIn K cdMi "_law_mixed" = true)
    (kMi : PySem.W.keepIn K (.ref fMi) = true)
    (aGr : PySem.W.nsIn K mainGlobals "_law_graph" = some (some (.ref fGr)))
    (lGr : K.lookup fGr = some ⟨ocGr, odGr, .func (PySem.W.fnOf "_law_graph" "_law_graph" (defArgs sGraph) (defBody sGraph) (defScope sGraph) .none kVGr dcGr pmGr anGr cdGr ctGr), slGr⟩)
    (cGr : PySem.W.codeIn K cdGr "_law_graph" = true)
    (kGr : PySem.W.keepIn K (.ref fGr) = true)
    (aFp : PySem.W.nsIn K mainGlobals "_law_flips" = some (some (.ref fFp)))
    (lFp : K.lookup fFp = some ⟨ocFp, odFp, .func (PySem.W.fnOf "_law_flips" "_law_flips" (defArgs sFlips) (defBody sFlips) (defScope sFlips) .none kVFp dcFp pmFp anFp cdFp ctFp), slFp⟩)
    (cFp : PySem.W.codeIn K cdFp "_law_flips" = true)
    (kFp : PySem.W.keepIn K (.ref fFp) = true)
    (aCs : PySem.W.nsIn K mainGlobals "_law_carries" = some (some (.ref fCs)))
    (lCs : K.lookup fCs = some ⟨ocCs, odCs, .func (PySem.W.fnOf "_law_carries" "_law_carries" (defArgs sCarries) (defBody sCarries) (defScope sCarries) .none kVCs dcCs pmCs anCs cdCs ctCs), slCs⟩)
    (cCs : PySem.W.codeIn K cdCs "_law_carries" = true)
    (kCs : PySem.W.keepIn K (.ref fCs) = true)
    (aRe : PySem.W.nsIn K mainGlobals "_law_refused" = some (some (.ref fRe)))
    (lRe : K.lookup fRe = some ⟨ocRe, odRe, .func (PySem.W.fnOf "_law_refused" "_law_refused" (defArgs sRefused) (defBody sRefused) (defScope sRefused) .none kVRe dcRe pmRe anRe cdRe ctRe), slRe⟩)
    (cRe : PySem.W.codeIn K cdRe "_law_refused" = true)
    (kRe : PySem.W.keepIn K (.ref fRe) = true)
    (aOd : PySem.W.nsIn K mainGlobals "_law_odd_values" = some (some (.ref fOd)))
    (lOd : K.lookup fOd = some ⟨ocOd, odOd, .func (PySem.W.fnOf "_law_odd_values" "_law_odd_values" (defArgs sOdd) (defBody sOdd) (defScope sOdd) .none kVOd dcOd pmOd anOd cdOd ctOd), slOd⟩)
    (cOd : PySem.W.codeIn K cdOd "_law_odd_values" = true)
    (kOd : PySem.W.keepIn K (.ref fOd) = true)
    (aFu : PySem.W.nsIn K mainGlobals "_law_full" = some (some (.ref fFu)))
    (lFu : K.lookup fFu = some ⟨ocFu, odFu, .func (PySem.W.fnOf "_law_full" "_law_full" (defArgs sFull) (defBody sFull) (defScope sFull) .none kVFu dcFu pmFu anFu cdFu ctFu), slFu⟩)
    (cFu : PySem.W.codeIn K cdFu "_law_full" = true)
    (kFu : PySem.W.keepIn K (.ref fFu) = true)
    (aLa : PySem.W.nsIn K mainGlobals "law" = some (some (.ref fLa)))
    (lLa : K.lookup fLa = some ⟨ocLa, odLa, .func (PySem.W.fnOf "law" "law" (defArgs sLaw) (defBody sLaw) (defScope sLaw) .none kVLa dcLa pmLa anLa cdLa ctLa), slLa⟩)
    (cLa : PySem.W.codeIn K cdLa "law" = true)
    (kLa : PySem.W.keepIn K (.ref fLa) = true)
    (aIn : PySem.W.findIn K (.ref C) "__init__" = some (some (.ref fIn)))
    (iIn : PySem.W.isFn K (.ref fIn) = true)
    (lIn : K.lookup fIn = some ⟨ocIn, odIn, .func (PySem.W.fnOf "__init__" "Graph.__init__" (defArgs sInit) (defBody sInit) (defScope sInit) .none kVIn dcIn pmIn anIn cdIn ctIn), slIn⟩)
    (cIn : PySem.W.codeIn K cdIn "Graph.__init__" = true)
    (kIn : PySem.W.keepIn K (.ref fIn) = true)
    (aI2 : PySem.W.findIn K (.ref Cn) "__init__" = some (some (.ref fI2)))
    (tI2 : PySem.W.typeIn K (.ref fI2) = some (.type "function"))
    (lI2 : K.lookup fI2 = some ⟨ocI2, odI2, .func (PySem.W.fnOf "__init__" "NoCarry.__init__" (defArgs sI2) (defBody sI2) (defScope sI2) .none kVI2 dcI2 pmI2 anI2 cdI2 ctI2), slI2⟩)
    (cI2 : PySem.W.codeIn K cdI2 "NoCarry.__init__" = true)
    (kI2 : PySem.W.keepIn K (.ref fI2) = true)
    (pgC : PySem.W.plainGet K C Str.empty = true)
    (hdC : PySem.W.hasDictIn K C = true)
    (poC : PySem.W.plainOver K C = true)
    (saC : PySem.W.findIn K (.ref C) "__setattr__" = some (some (.builtin "object.__setattr__")))
    (mkC : PySem.W.makesIn K C = true)
    (kcC : PySem.W.keepIn K (.ref C) = true)
    (nV : PySem.W.findIn K (.ref C) "vertices" = some none)
    (nE : PySem.W.findIn K (.ref C) "edges" = some none)
    (ox2 : K.lookup Cn = some (PySem.excClassObj nm2 q2 Cn N2 bs2 bm2 true sn2 sub2 ab2 col2 dd2 k0_2 k1_2 k2_2 k3_2 k5_2 "ValueError.__new__"))
    (rv2 : PySem.HandSPX.refsVE bm2 = true)
    (sa2 : PySem.W.findIn K (.ref Cn) "__setattr__" = some (some (.builtin "object.__setattr__")))
    (ty2 : PySem.W.typeIn K (.ref Cn) = some (.type "type"))
    (kp2 : PySem.W.keepIn K (.ref Cn) = true)
    (fn2 : PySem.W.findIn K (.ref Cn) "at" = some none)
    (sg : PySem.W.specialIn K (.builtin "object.__class__") "__get__" = some (some (.builtin "getset_descriptor.__get__")))
    (tk : PySem.W.takesIn K (.builtin "object.__class__") = some true)
    (xcl : PySem.W.clsIn K Cn = some cdtN)
    (xga : PySem.W.findIn K (.ref Cn) "__getattribute__" = some (some (.builtin "BaseException.__getattribute__")))
    (xgg : PySem.W.findIn K (.ref Cn) "__getattr__" = some none)
    (xsb : PySem.W.subIn K (.ref Cn) (.type "BaseException") = some true)
    (xhd : PySem.W.hasDictIn K Cn = true)
    (xca : PySem.W.findIn K (.ref Cn) "__class__" = some (some (.builtin "object.__class__")))
    (xmo : PySem.W.mroIn K Cn (.type "object") = some true)
    (xic : PySem.W.isClsIn K Cn = true)
    (xss : PySem.W.subIn K (.ref Cn) (.ref Cn) = some true)
    (kB : PySem.W.kitOne K (.ref Cn) (.ref B) = some true)
    (kR : PySem.W.kitOne K (.ref Cn) (.ref Cr) = some false)
    (kE : PySem.W.kitOne K (.ref Cn) (.ref Ce) = some false)
    (z_len : PySem.W.nsIn K mainGlobals "len" = some none)
    (z_int : PySem.W.nsIn K mainGlobals "int" = some none)
    (z_list : PySem.W.nsIn K mainGlobals "list" = some none)
    (z_tuple : PySem.W.nsIn K mainGlobals "tuple" = some none)
    (z_isinstance : PySem.W.nsIn K mainGlobals "isinstance" = some none)
    (z_str : PySem.W.nsIn K mainGlobals "str" = some none)
    (z_all : PySem.W.nsIn K mainGlobals "all" = some none)
    (z_set : PySem.W.nsIn K mainGlobals "set" = some none)
    (z_sorted : PySem.W.nsIn K mainGlobals "sorted" = some none)
    (z_enumerate : PySem.W.nsIn K mainGlobals "enumerate" = some none)
    (z_min : PySem.W.nsIn K mainGlobals "min" = some none)
    (z_max : PySem.W.nsIn K mainGlobals "max" = some none)
    (x_LETTERS : PySem.W.nsIn K mainGlobals "LETTERS" = some (some (.str letters t0)))
    (x_LONGEST_NAME : PySem.W.nsIn K mainGlobals "LONGEST_NAME" = some (some (.int 8 t1)))
    (x_MOST_VERTICES : PySem.W.nsIn K mainGlobals "MOST_VERTICES" = some (some (.int 8 t2)))
    (x_MOST_EDGES : PySem.W.nsIn K mainGlobals "MOST_EDGES" = some (some (.int 18 t3))) :
    ∃ fd : FuncData, (∀ (s : Shared) (v : Value), BindsTo s fd ⟨[v], []⟩ [("_law_script", v)]) ∧ ∀ base : Heap, K.In base → base.Ns mainGlobals mg → FnOk l.prog w K mg base CX0 7 fa fd ["_law_script"] (spLaw K) := by
  have e := hfa.symm.trans (PySem.W.mg_of X G aLa)
  cases e
  have T : GTxt K mg C := ⟨⟨pgC, hdC, poC, saC⟩, nV, nE, PySem.W.mg_of X G aC⟩
  have FAp := fun_mk (st := sApart) lAp cAp kAp
  have bAp := FAp.binds (ps := ["one", "other"]) fun _ _ _ _ _ _ us hl => match us, hl with | [_, _], _ => rfl
  have mAp := PySem.W.mg_of X G aAp
  have FRo := fun_mk (st := sRow) lRo cRo kRo
  have bRo := FRo.binds (ps := ["value"]) fun _ _ _ _ _ _ us hl => match us, hl with | [_], _ => rfl
  have mRo := PySem.W.mg_of X G aRo
  have FCo := fun_mk (st := sCouple) lCo cCo kCo
  have bCo := FCo.binds (ps := ["value"]) fun _ _ _ _ _ _ us hl => match us, hl with | [_], _ => rfl
  have mCo := PySem.W.mg_of X G aCo
  have FNa := fun_mk (st := sName) lNa cNa kNa
  have bNa := FNa.binds (ps := ["value"]) fun _ _ _ _ _ _ us hl => match us, hl with | [_], _ => rfl
  have mNa := PySem.W.mg_of X G aNa
  have FVe := fun_mk (st := sVerts) lVe cVe kVe
  have bVe := FVe.binds (ps := ["value"]) fun _ _ _ _ _ _ us hl => match us, hl with | [_], _ => rfl
  have mVe := PySem.W.mg_of X G aVe
  have FEg := fun_mk (st := sEdges) lEg cEg kEg
  have bEg := FEg.binds (ps := ["vertices", "value"]) fun _ _ _ _ _ _ us hl => match us, hl with | [_, _], _ => rfl
  have mEg := PySem.W.mg_of X G aEg
  have FAm := fun_mk (st := sAmong) lAm cAm kAm
  have bAm := FAm.binds (ps := ["vertices", "value"]) fun _ _ _ _ _ _ us hl => match us, hl with | [_, _], _ => rfl
  have mAm := PySem.W.mg_of X G aAm
  have FJo := fun_mk (st := sJoins) lJo cJo kJo
  have bJo := FJo.binds (ps := ["vertices", "value"]) fun _ _ _ _ _ _ us hl => match us, hl with | [_, _], _ => rfl
  have mJo := PySem.W.mg_of X G aJo
  have FIe := fun_mk (st := sIsEdge) lIe cIe kIe
  have bIe := FIe.binds (ps := ["graph", "value"]) fun _ _ _ _ _ _ us hl => match us, hl with | [_, _], _ => rfl
  have mIe := PySem.W.mg_of X G aIe
  have FCa := fun_mk (st := sCarry) lCa cCa kCa
  have bCa := FCa.binds (ps := ["graph", "value"]) fun _ _ _ _ _ _ us hl => match us, hl with | [_, _], _ => rfl
  have mCa := PySem.W.mg_of X G aCa
  have FFz := fun_mk (st := sFlips0) lFz cFz kFz
  have bFz := FFz.binds (ps := ["graph", "carry"]) fun _ _ _ _ _ _ us hl => match us, hl with | [_, _], _ => rfl
  have mFz := PySem.W.mg_of X G aFz
  have FFl := fun_mk (st := sFlipped) lFl cFl kFl
  have bFl := FFl.binds (ps := ["graph", "carry"]) fun _ _ _ _ _ _ us hl => match us, hl with | [_, _], _ => rfl
  have mFl := PySem.W.mg_of X G aFl
  have FSo := fun_mk (st := sSource) lSo cSo kSo
  have bSo := FSo.binds (ps := ["_law_cell"]) fun _ _ _ _ _ _ us hl => match us, hl with | [_], _ => rfl
  have mSo := PySem.W.mg_of X G aSo
  have FNe := fun_mk (st := sNext) lNe cNe kNe
  have bNe := FNe.binds (ps := ["_law_source", "_law_many"]) fun _ _ _ _ _ _ us hl => match us, hl with | [_, _], _ => rfl
  have mNe := PySem.W.mg_of X G aNe
  have FOn := fun_mk (st := sOne) lOn cOn kOn
  have bOn := FOn.binds (ps := ["_law_source", "_law_some"]) fun _ _ _ _ _ _ us hl => match us, hl with | [_, _], _ => rfl
  have mOn := PySem.W.mg_of X G aOn
  have FMi := fun_mk (st := sMixed) lMi cMi kMi
  have bMi := FMi.binds (ps := ["_law_source", "_law_some"]) fun _ _ _ _ _ _ us hl => match us, hl with | [_, _], _ => rfl
  have mMi := PySem.W.mg_of X G aMi
  have FGr := fun_mk (st := sGraph) lGr cGr kGr
  have bGr := FGr.binds (ps := ["_law_source", "_law_most"]) fun _ _ _ _ _ _ us hl => match us, hl with | [_, _], _ => rfl
  have mGr := PySem.W.mg_of X G aGr
  have FFp := fun_mk (st := sFlips) lFp cFp kFp
  have bFp := FFp.binds (ps := ["_law_edges", "_law_edge", "_law_vertex"]) fun _ _ _ _ _ _ us hl => match us, hl with | [_, _, _], _ => rfl
  have mFp := PySem.W.mg_of X G aFp
  have FCs := fun_mk (st := sCarries) lCs cCs kCs
  have bCs := FCs.binds (ps := ["_law_names", "_law_edges"]) fun _ _ _ _ _ _ us hl => match us, hl with | [_, _], _ => rfl
  have mCs := PySem.W.mg_of X G aCs
  have FRe := fun_mk (st := sRefused) lRe cRe kRe
  have bRe := FRe.binds (ps := ["_law_graph_here", "_law_value"]) fun _ _ _ _ _ _ us hl => match us, hl with | [_, _], _ => rfl
  have mRe := PySem.W.mg_of X G aRe
  have FOd := fun_mk (st := sOdd) lOd cOd kOd
  have bOd := FOd.binds (ps := ["_law_source", "_law_names", "_law_edges"]) fun _ _ _ _ _ _ us hl => match us, hl with | [_, _, _], _ => rfl
  have mOd := PySem.W.mg_of X G aOd
  have FFu := fun_mk (st := sFull) lFu cFu kFu
  have bFu := FFu.binds (ps := ["_law_source"]) fun _ _ _ _ _ _ us hl => match us, hl with | [_], _ => rfl
  have mFu := PySem.W.mg_of X G aFu
  have FLa := fun_mk (st := sLaw) lLa cLa kLa
  have FIn := fun_mk (st := sInit) lIn cIn kIn
  have bIn := FIn.binds (ps := ["self", "vertices", "edges"]) fun _ _ _ _ _ _ us hl => match us, hl with | [_, _, _], _ => rfl
  have FI2 := fun_mk (st := sI2) lI2 cI2 kI2
  have bI2 := FI2.binds (ps := ["self", "at"]) fun _ _ _ _ _ _ us hl => match us, hl with | [_, _], _ => rfl
  have ON : OexC K Cn := ⟨⟨_, _, _, _, _, _, _, _, _, _, _, _, _, _, _, ox2, rv2⟩, sa2, xsb, ty2, kp2⟩
  have XN : XCls K Cn := ⟨by rw [xcl]; rfl, xga, xgg, xsb, xhd, xca, sg, tk, xmo⟩
  have fX : XfC K Cn := ⟨xga, xgg, xsb, xhd⟩
  have te := exm_own xsb xcl ty2 xss
  have kRE : PySem.W.kitAny K (.ref Cn) [.ref Cr, .ref Ce] = some false := kitAny_cons kR (fun _ => kitAny_cons kE (fun _ => rfl) (fun z => nomatch z)) (fun z => nomatch z)
  have mCn := PySem.W.mg_of X G a_Cn
  have mB := PySem.W.mg_of X G a_B
  have mCr := PySem.W.mg_of X G a_Cr
  have mCe := PySem.W.mg_of X G a_Ce
  have n_len := PySem.W.mg_none_of X G z_len
  have n_int := PySem.W.mg_none_of X G z_int
  have n_list := PySem.W.mg_none_of X G z_list
  have n_tuple := PySem.W.mg_none_of X G z_tuple
  have n_isinstance := PySem.W.mg_none_of X G z_isinstance
  have n_str := PySem.W.mg_none_of X G z_str
  have n_all := PySem.W.mg_none_of X G z_all
  have n_set := PySem.W.mg_none_of X G z_set
  have n_sorted := PySem.W.mg_none_of X G z_sorted
  have n_enumerate := PySem.W.mg_none_of X G z_enumerate
  have n_min := PySem.W.mg_none_of X G z_min
  have n_max := PySem.W.mg_none_of X G z_max
  have v_LETTERS := PySem.W.mg_of X G x_LETTERS
  have v_LONGEST_NAME := PySem.W.mg_of X G x_LONGEST_NAME
  have v_MOST_VERTICES := PySem.W.mg_of X G x_MOST_VERTICES
  have v_MOST_EDGES := PySem.W.mg_of X G x_MOST_EDGES
  refine ⟨PySem.W.fnOf "law" "law" (defArgs sLaw) (defBody sLaw) (defScope sLaw) .none kVLa dcLa pmLa anLa cdLa ctLa, fun s v => .of_eq rfl, fun base _ _ => ?_⟩
  have GNe : FnOk l.prog w K mg base CX0 1 fNe _ ["_law_source", "_law_many"] spNext := ok_next FNe
  have GOn : FnOk l.prog w K mg base CX0 2 fOn _ ["_law_source", "_law_some"] (spOne K) := ok_one FOn n_len mNe FNe bNe
  have GMi : FnOk l.prog w K mg base CX0 2 fMi _ ["_law_source", "_law_some"] (spMixed K) := ok_mixed FMi n_len n_list mNe FNe bNe
  have GRo : FnOk l.prog w K mg base CX0 1 fRo _ ["value"] spRow := ok_row FRo n_isinstance n_list n_tuple
  have GCo : FnOk l.prog w K mg base CX0 1 fCo _ ["value"] spCouple := ok_couple FCo n_isinstance n_len n_tuple
  have GAm : FnOk l.prog w K mg base CX0 1 fAm _ ["vertices", "value"] (spAmong K) := ok_among FAm n_isinstance n_str
  have GJo : FnOk l.prog w K mg base CX0 2 fJo _ ["vertices", "value"] (spJoins K) := ok_joins FJo mCo GCo kCo bCo mAm GAm kAm bAm
  have GNa : FnOk l.prog w K mg base CX0 1 fNa _ ["value"] spName := ok_name FNa n_isinstance n_str n_len n_all v_LETTERS v_LONGEST_NAME
  have GVe : FnOk l.prog w K mg base CX0 2 fVe _ ["value"] spVerts := ok_verts FVe n_len n_all n_set v_MOST_VERTICES mRo GRo kRo bRo mNa GNa kNa bNa
  have GEg : FnOk l.prog w K mg base CX0 3 fEg _ ["vertices", "value"] spEdges := ok_edges FEg n_len n_all n_set v_MOST_EDGES mRo GRo kRo bRo mJo GJo kJo bJo
  have GIn : FnOk l.prog w K mg base CX0 4 fIn _ ["self", "vertices", "edges"] (spInit C) := ok_init FIn T n_tuple n_sorted mVe GVe kVe bVe mEg GEg kEg bEg
  have GAp : FnOk l.prog w K mg base CX0 1 fAp _ ["one", "other"] spApart := ok_apart FAp
  have GSo : FnOk l.prog w K mg base CX0 1 fSo _ ["_law_cell"] spSource := ok_source FSo n_int
  have GGr : FnOk l.prog w K mg base CX0 3 fGr _ ["_law_source", "_law_most"] spGraph := ok_graph FGr n_len n_min mNe GNe kNe bNe mMi GMi kMi bMi mOn GOn kOn bOn
  have GFu : FnOk l.prog w K mg base CX0 3 fFu _ ["_law_source"] spFull := ok_full FFu mMi GMi kMi bMi
  have HCo : FnOk l.prog w K mg base CX0 1 fCo _ ["value"] spCoupleG := ok_coupleG FCo n_isinstance n_len n_tuple
  have HAm : FnOk l.prog w K mg base CX0 1 fAm _ ["vertices", "value"] (spAmongG K) := ok_amongG FAm n_isinstance n_str
  have HJo : FnOk l.prog w K mg base CX0 2 fJo _ ["vertices", "value"] (spJoinsG K) := ok_joinsG FJo mCo HCo kCo bCo mAm HAm kAm bAm
  have HIe : FnOk l.prog w K mg base CX0 3 fIe _ ["graph", "value"] (spIsEdge C) := ok_isedge FIe T mJo HJo kJo bJo
  have HCa : FnOk l.prog w K mg base CX0 4 fCa _ ["graph", "value"] (spCarry C) := ok_carry FCa T mCo HCo kCo bCo mIe HIe kIe bIe mAm HAm kAm bAm
  have GI2 : FnOk l.prog w K mg base CX0 1 fI2 _ ["self", "at"] (spXI Cn "at") := ok_I2 FI2 ON fn2
  have HFz : FnOk l.prog w K mg base CX0 2 fFz _ ["graph", "carry"] (spFlips0 C) := ok_flips0 FFz T mAp GAp kAp bAp
  have HFl : FnOk l.prog w K mg base (L2.CX l.prog w) 5 fFl _ ["graph", "carry"] (spFlipped C Cn) := ok_flipped FFl mCa HCa kCa bCa mFz HFz kFz bFz mCn ON aI2 tI2 GI2 bI2
  have HFp : FnOk l.prog w K mg base CX0 1 fFp _ ["_law_edges", "_law_edge", "_law_vertex"] spFlips := ok_flips FFp n_min n_max
  have HCs : FnOk l.prog w K mg base CX0 1 fCs _ ["_law_names", "_law_edges"] (spCarries K) := ok_carries FCs n_sorted
  have HRe : FnOk l.prog w K mg base CX0 6 fRe _ ["_law_graph_here", "_law_value"] (spRefused C) := ok_refused FRe n_isinstance XN fX fn2 te mCn mB mCr mCe kB kRE mFl HFl kFl bFl
  have HOd : FnOk l.prog w K mg base CX0 3 fOd _ ["_law_source", "_law_names", "_law_edges"] spOdd := ok_odd FOd n_list mOn GOn kOn bOn
  exact ok_law FLa T n_isinstance n_list n_enumerate n_sorted mSo GSo kSo bSo mGr GGr kGr bGr mFu GFu kFu bFu mCs HCs kCs bCs mFp HFp kFp bFp mFl HFl kFl bFl mOd HOd kOd bOd mRe HRe kRe bRe ⟨mkC, aIn, iIn, kcC⟩ GIn bIn
theorem walk {l : PySem.W.OpenLaw} {q : Program} {loose : List Str} {XP : (Str → Option Value) → Heap → Prop} {YP : World → Heap → Prop} {d : DefRec} {K : Params → PySem.W.Frag} (hn : l.most = some 63) (hdf : d.params.defaults = [])
    (hY : ∀ (w : World) (h : Heap), YP w h → (K w.params).In h)
    (F : ∀ (w : World) (mg : Str → Option Value) (fa : Addr) (h : Heap), (K w.params).In h → h.Ns mainGlobals mg → mg d.name = some (.ref fa) →
      ∃ fd : FuncData, (∀ (s : Shared) (u : Value), BindsTo s fd ⟨[u], []⟩ [("_law_script", u)]) ∧ ∀ base : Heap, (K w.params).In base → base.Ns mainGlobals mg → FnOk l.prog w (K w.params) mg base CX0 7 fa fd ["_law_script"] (spLaw (K w.params))) :
    PySem.W.WalkO q loose XP YP l.row.toRowW d [] (fun f vs => PySem.call f vs) :=
  L2.walk_of (n := 63) (k := 7) (x := "_law_script") (CX := fun _ => CX0) (sp := fun w => spLaw (K w.params)) hn (by decide) hdf ⟨rfl, by decide, by decide⟩ hY F (fun _ _ a ns hl _ hS => ⟨a, ns, rfl, hS, hl, fun _ => rfl⟩) fun _ _ _ _ _ z => z
end CP
open PySem PySem.W PyProof.Rows
set_option maxRecDepth 100000 in
set_option maxHeartbeats 0 in
theorem PySem.Challenge.cw_crossparity_k49_pairs_flipped_by_a_carry_holds : PySem.Challenge.rw_crossparity_k49_pairs_flipped_by_a_carry.Holds := by
  w_on; o_law; k_head; (case hw => w_witness2)
  k_fill
  refine CP.walk (l := PySem.Challenge.rw_crossparity_k49_pairs_flipped_by_a_carry) rfl rfl (fun w h Y => PySem.W.kIn_of Y) ?F
  case F =>
    intro w mg fa h KX G hmg
    refine' CP.all_mk KX G hmg ?aC ?a_Cn ?a_B ?a_Cr ?a_Ce ?aAp ?lAp ?cAp ?kAp ?aRo ?lRo ?cRo ?kRo ?aCo ?lCo ?cCo ?kCo ?aNa ?lNa ?cNa ?kNa ?aVe ?lVe ?cVe ?kVe ?aEg ?lEg ?cEg ?kEg ?aAm ?lAm ?cAm ?kAm ?aJo ?lJo ?cJo ?kJo ?aIe ?lIe ?cIe ?kIe ?aCa ?lCa ?cCa ?kCa ?aFz ?lFz ?cFz ?kFz ?aFl ?lFl ?cFl ?kFl ?aSo ?lSo ?cSo ?kSo ?aNe ?lNe ?cNe ?kNe ?aOn ?lOn ?cOn ?kOn ?aMi ?lMi ?cMi ?kMi ?aGr ?lGr ?cGr ?kGr ?aFp ?lFp ?cFp ?kFp ?aCs ?lCs ?cCs ?kCs ?aRe ?lRe ?cRe ?kRe ?aOd ?lOd ?cOd ?kOd ?aFu ?lFu ?cFu ?kFu ?aLa ?lLa ?cLa ?kLa ?aIn ?iIn ?lIn ?cIn ?kIn ?aI2 ?tI2 ?lI2 ?cI2 ?kI2 ?pgC ?hdC ?poC ?saC ?mkC ?kcC ?nV ?nE ?ox2 ?rv2 ?sa2 ?ty2 ?kp2 ?fn2 ?sg ?tk ?xcl ?xga ?xgg ?xsb ?xhd ?xca ?xmo ?xic ?xss ?kB ?kR ?kE ?z_len ?z_int ?z_list ?z_tuple ?z_isinstance ?z_str ?z_all ?z_set ?z_sorted ?z_enumerate ?z_min ?z_max ?x_LETTERS ?x_LONGEST_NAME ?x_MOST_VERTICES ?x_MOST_EDGES
    (case aC => k_is)
    (case a_Cn => k_is)
    (case a_B => k_is)
    (case a_Cr => k_is)
    (case a_Ce => k_is)
    (case aAp => k_is)
    (case lAp => k_is)
    (case cAp => k_is)
    (case kAp => k_is)
    (case aRo => k_is)
    (case lRo => k_is)
    (case cRo => k_is)
    (case kRo => k_is)
    (case aCo => k_is)
    (case lCo => k_is)
    (case cCo => k_is)
    (case kCo => k_is)
    (case aNa => k_is)
    (case lNa => k_is)
    (case cNa => k_is)
    (case kNa => k_is)
    (case aVe => k_is)
    (case lVe => k_is)
    (case cVe => k_is)
    (case kVe => k_is)
    (case aEg => k_is)
    (case lEg => k_is)
    (case cEg => k_is)
    (case kEg => k_is)
    (case aAm => k_is)
    (case lAm => k_is)
    (case cAm => k_is)
    (case kAm => k_is)
    (case aJo => k_is)
    (case lJo => k_is)
    (case cJo => k_is)
    (case kJo => k_is)
    (case aIe => k_is)
    (case lIe => k_is)
    (case cIe => k_is)
    (case kIe => k_is)
    (case aCa => k_is)
    (case lCa => k_is)
    (case cCa => k_is)
    (case kCa => k_is)
    (case aFz => k_is)
    (case lFz => k_is)
    (case cFz => k_is)
    (case kFz => k_is)
    (case aFl => k_is)
    (case lFl => k_is)
    (case cFl => k_is)
    (case kFl => k_is)
    (case aSo => k_is)
    (case lSo => k_is)
    (case cSo => k_is)
    (case kSo => k_is)
    (case aNe => k_is)
    (case lNe => k_is)
    (case cNe => k_is)
    (case kNe => k_is)
    (case aOn => k_is)
    (case lOn => k_is)
    (case cOn => k_is)
    (case kOn => k_is)
    (case aMi => k_is)
    (case lMi => k_is)
    (case cMi => k_is)
    (case kMi => k_is)
    (case aGr => k_is)
    (case lGr => k_is)
    (case cGr => k_is)
    (case kGr => k_is)
    (case aFp => k_is)
    (case lFp => k_is)
    (case cFp => k_is)
    (case kFp => k_is)
    (case aCs => k_is)
    (case lCs => k_is)
    (case cCs => k_is)
    (case kCs => k_is)
    (case aRe => k_is)
    (case lRe => k_is)
    (case cRe => k_is)
    (case kRe => k_is)
    (case aOd => k_is)
    (case lOd => k_is)
    (case cOd => k_is)
    (case kOd => k_is)
    (case aFu => k_is)
    (case lFu => k_is)
    (case cFu => k_is)
    (case kFu => k_is)
    (case aLa => k_is)
    (case lLa => k_is)
    (case cLa => k_is)
    (case kLa => k_is)
    (case aIn => k_is)
    (case iIn => k_is)
    (case lIn => k_is)
    (case cIn => k_is)
    (case kIn => k_is)
    (case aI2 => k_is)
    (case tI2 => k_is)
    (case lI2 => k_is)
    (case cI2 => k_is)
    (case kI2 => k_is)
    (case pgC => k_is)
    (case hdC => k_is)
    (case poC => k_is)
    (case saC => k_is)
    (case mkC => k_is)
    (case kcC => k_is)
    (case nV => k_is)
    (case nE => k_is)
    (case ox2 => k_is)
    (case rv2 => decide +kernel)
    (case sa2 => k_is)
    (case ty2 => k_is)
    (case kp2 => k_is)
    (case fn2 => k_is)
    (case sg => k_is)
    (case tk => k_is)
    (case xcl => k_is)
    (case xga => k_is)
    (case xgg => k_is)
    (case xsb => k_is)
    (case xhd => k_is)
    (case xca => k_is)
    (case xmo => k_is)
    (case xic => k_is)
    (case xss => k_is)
    (case kB => kit_is)
    (case kR => kit_is)
    (case kE => kit_is)
    (case z_len => k_is)
    (case z_int => k_is)
    (case z_list => k_is)
    (case z_tuple => k_is)
    (case z_isinstance => k_is)
    (case z_str => k_is)
    (case z_all => k_is)
    (case z_set => k_is)
    (case z_sorted => k_is)
    (case z_enumerate => k_is)
    (case z_min => k_is)
    (case z_max => k_is)
    (case x_LETTERS => k_is)
    (case x_LONGEST_NAME => k_is)
    (case x_MOST_VERTICES => k_is)
    (case x_MOST_EDGES => k_is)
