import Derived.Test.YtbiomnnlpafciaaDoorT01
import Derived.Deep.Slices
import GoSem.ClaimJoined
set_option linter.unusedVariables false
set_option linter.unusedSimpArgs false
set_option maxHeartbeats 64000000
set_option maxRecDepth 100000
namespace Go.Proofs.YtbiomnnlpafciaaDoor
open Go.RowKit Go.IntWalk
set_option linter.unusedVariables false
set_option linter.unusedSimpArgs false
/-- the cells of the first n things, one behind the other -/
def flat (C : Nat → List Value) : Nat → List Value
  | 0 => []
  | n + 1 => flat C n ++ C n
theorem flat_len {C : Nat → List Value} {k : Nat} : ∀ n, (∀ i, i < n → (C i).length = k) → (flat C n).length = n * k
  | 0, _ => by simp [flat]
  | n + 1, h => by
    rw [flat, List.length_append, flat_len n (fun i hi => h i (by omega)), h n (by omega), Nat.succ_mul]
theorem flat_get {C : Nat → List Value} {k : Nat} : ∀ n, (∀ i, i < n → (C i).length = k) → ∀ i j, i < n → j < k → (flat C n)[i * k + j]? = (C i)[j]?
  | 0, _, i, j, hi, _ => absurd hi (Nat.not_lt_zero _)
  | n + 1, h, i, j, hi, hj => by
    have hl := flat_len n (fun i hi => h i (by omega)) (C := C) (k := k)
    rw [flat]
    by_cases e : i = n
    · subst e
      rw [List.getElem?_append_right (by omega), hl]
      congr 1
      omega
    · have hin : i < n := by omega
      have : i * k + j < n * k := by
        have : (i + 1) * k ≤ n * k := Nat.mul_le_mul_right k (by omega)
        rw [Nat.succ_mul] at this
        omega
      rw [List.getElem?_append_left (by omega)]
      exact flat_get n (fun i hi => h i (by omega)) i j hin hj
theorem flat_mem {C : Nat → List Value} : ∀ n u, u ∈ flat C n → ∃ i, i < n ∧ u ∈ C i
  | 0, u, h => by simp [flat] at h
  | n + 1, u, h => by
    rw [flat, List.mem_append] at h
    rcases h with h | h
    · obtain ⟨i, hi, hu⟩ := flat_mem n u h
      exact ⟨i, by omega, hu⟩
    · exact ⟨n, by omega, h⟩
theorem flat_congr {C D : Nat → List Value} : ∀ n, (∀ i, i < n → C i = D i) → flat C n = flat D n
  | 0, _ => rfl
  | n + 1, h => by rw [flat, flat, flat_congr n (fun i hi => h i (by omega)), h n (by omega)]
theorem owns_sl {w : World} {base : Nat} {e : TypeId} {k : Nat} {v : Value} {n : Nat} {C : Nat → List Value} (h : w.ownsRow base e k v n (flat C n)) (hC : ∀ i, i < n → (C i).length = k) : Sl (fun i => base ≤ i) k w v n C := by
  by_cases hn : 0 < n
  · obtain ⟨g, cap, hv, h1, h2, h3, h4, h5⟩ := owns_pos h hn
    refine ⟨_, cap, hv, h3, h4, fun _ => ⟨g, 0, rfl, h1, h2, fun i hi => ⟨hC i hi, fun j hj => ?_⟩⟩⟩
    have hg := flat_get n hC i j hi hj
    have hjl : j < (C i).length := by rw [hC i hi]; exact hj
    have := h5 (i * k + j) ((C i)[j]) (by rw [hg]; exact List.getElem?_eq_getElem hjl)
    rw [Nat.zero_add, this, List.getElem?_eq_getElem hjl]
  · rcases h.2 with ⟨hv, h0⟩ | ⟨g, cap, cur, hv, hb, hg, hnc, hcm, hcs, htake⟩
    · exact ⟨none, 0, by rw [hv, h0], by omega, Nat.zero_le _, fun h => absurd h hn⟩
    · exact ⟨_, cap, hv, hnc, hcm, fun h => absurd h hn⟩
theorem Sl.news {ok : Nat → Prop} {k : Nat} {w : World} {b o : Nat} {n cap : Nat} {C : Nat → List Value} (hk : 0 < k) (h : Sl ok k w (.slice (some ⟨b, o, none⟩) n cap) n C) :
    ∀ q u, (flat C n)[q]? = some u → w.cell? ((⟨b, o, none⟩ : Addr).add q) = some u := by
  intro q u hq
  obtain ⟨ao, cap', hv, h1, h2, h3⟩ := h
  injection hv with e1 e2 e3
  subst e1
  have hlen : (flat C n).length ≤ n * k → q < n * k := fun h => by
    have := (List.getElem?_eq_some_iff.1 hq).1
    omega
  by_cases hn : 0 < n
  · obtain ⟨b', o', ha, _, _, hc⟩ := h3 hn
    injection ha with ha
    injection ha with ha1 ha2 ha3
    subst ha1 ha2
    have hl := flat_len n (fun i hi => (hc i hi).1)
    have hqn : q < n * k := hlen (by omega)
    have hqi : q / k < n := Nat.div_lt_of_lt_mul (by rw [Nat.mul_comm]; exact hqn)
    have hqj : q % k < k := Nat.mod_lt _ hk
    have hq' : q / k * k + q % k = q := by rw [Nat.mul_comm]; exact Nat.div_add_mod q k
    have hg := flat_get n (fun i hi => (hc i hi).1) (q / k) (q % k) hqi hqj
    rw [hq', hq] at hg
    have hcc := (hc (q / k) hqi).2 (q % k) hqj
    rw [← hg, Nat.add_assoc, hq'] at hcc
    have adds : (⟨b, o, none⟩ : Addr).add q = ⟨b, o + q, none⟩ := by unfold Addr.add; split <;> simp_all
    rw [adds]
    exact hcc
  · have : n = 0 := by omega
    subst this
    simp [flat] at hq
/-- append to a row of the call's own: what comes is the same row, or a new block -/
theorem run_push {P : Program} (w : World) (base : Nat) (t ty e : TypeId) (i : TypeInfo) (z : Value) (size bytes : Nat) (ht : P.underlying t = some (.slice e)) (hi : P.info? e = some i) (hz : i.zero = some z)
    (hsize : i.size = size) (hby : i.bytes = bytes) (hzs : z.cells.size = size) (hsz : 0 < size)
    (v : Value) (n : Nat) (xs : List Value) (hown : w.ownsRow base e size v n xs)
    (a : Addr) (m c : Nat) (news : List Value) (hl : news.length = m * size) (hnews : ∀ j u, news[j]? = some u → w.cell? (a.add j) = some u) (h1 : ∀ u ∈ news, u.oneCell' = true)
    (h63 : n + m ≤ maxLen) (hbytes : (n + m) * bytes ≤ 140737488355328) (hbase : base ≤ w.heap.size) :
    ∃ v' w', (Builtin.append_ #[t, t] ty #[v, .slice (some a) m c]).run P w = .ok v' w' ∧ w'.ownsRow base e size v' (n + m) (xs ++ news) ∧ w.grownBy w' v.ownBlock ∧ (v'.ownBlock = v.ownBlock ∨ ∃ k, v'.ownBlock = some k ∧ w.heap.size ≤ k) := by
  obtain ⟨v', w', hr, h2, h3, h4⟩ := run_append_own (P := P) w base t ty e i z size bytes ht hi hz hsize hby hzs hsz v n xs hown a m c news hl hnews h1 h63 hbytes hbase
  refine ⟨v', w', hr, h2, h3, ?_⟩
  have hcell := @World.ownsRow.cells _ _ _ _ _ _ _ hown
  rcases hown.2 with ⟨rfl, h0⟩ | ⟨g, cap, cur, rfl, hb, hg, hnc, hcm, hcs, htake⟩
  · obtain ⟨v2, w2, hr2, h22, _⟩ := run_append_own (P := P) w w.heap.size t ty e i z size bytes ht hi hz hsize hby hzs hsz (.slice none 0 0) n xs ⟨hown.1, .inl ⟨rfl, h0⟩⟩ a m c news hl hnews h1 h63 hbytes (Nat.le_refl _)
    rw [hr] at hr2
    injection hr2 with e1 e2
    subst e1 e2
    rcases h22.2 with ⟨rfl, _⟩ | ⟨g, cap, cur, rfl, hb, _⟩
    · exact .inl rfl
    · exact .inr ⟨g, rfl, hb⟩
  · by_cases hroom : n + m ≤ cap
    · subst hsize
      have hin : ∀ j, j < news.length → 0 + n * i.size + j < cur.size := fun j hj => by
        have : (n + m) * i.size ≤ cap * i.size := Nat.mul_le_mul_right _ hroom
        rw [Nat.add_mul] at this
        rw [hcs]
        omega
      have hr2 := run_append_room_cells (P := P) w t ty e i ht hi g 0 n cap a m c news hl hnews h1 hroom
        (fun j hj => by rw [cell_of hg]; have := hin j hj; simp at this ⊢; omega) (fun j hj => free_of hg _)
      rw [hr] at hr2
      injection hr2 with e1 e2
      subst e1
      exact .inl rfl
    · obtain ⟨v2, w2, hr2, h22, _⟩ := run_append_arg_grows (P := P) w t ty e i z size bytes ht hi hz hsize hby hzs hsz ⟨g, 0, none⟩ n cap xs hown.1 (fun j u hu => @hcell g rfl j u hu) a m c news hl hnews (by omega) h63 hbytes
      rw [hr] at hr2
      injection hr2 with e1 e2
      subst e1 e2
      rcases h22.2 with ⟨rfl, hz0⟩ | ⟨g', cap', cur', rfl, hb', _⟩
      · exfalso
        have : ¬ (0 : Nat) < n + m := by omega
        omega
      · exact .inr ⟨g', rfl, hb'⟩
end Go.Proofs.YtbiomnnlpafciaaDoor
namespace Go.Proofs.YtbiomnnlpafciaaDoor
open Go.RowKit Go.IntWalk
set_option linter.unusedVariables false
set_option linter.unusedSimpArgs false
/-- what lies from B on, but not in v's row -/
def Off (B : Nat) (v : Value) (k : Nat) : Prop := B ≤ k ∧ some k ≠ v.ownBlock
end Go.Proofs.YtbiomnnlpafciaaDoor
namespace Go.Proofs.YtbiomnnlpafciaaDoor
open Go.RowKit Go.IntWalk
set_option linter.unusedVariables false
set_option linter.unusedSimpArgs false
theorem HExs.wide {ok ok' : Nat → Prop} {w : World} {v : Value} {l : List Ex} (h : HExs ok w v l) (hk : ∀ i, ok i → i < w.heap.size → ok' i) : HExs ok' w v l := by
  obtain ⟨C, h1, h2⟩ := h
  exact ⟨C, h1.wide hk, fun i hi => (h2 i hi).wide hk⟩
end Go.Proofs.YtbiomnnlpafciaaDoor
namespace Go.Proofs.YtbiomnnlpafciaaDoor
open Go.RowKit Go.IntWalk Go.Deep
set_option linter.unusedVariables false
set_option linter.unusedSimpArgs false
section
variable {H : Type} {enc : TypeId × Value → H} {w : World}
theorem all_append {l r : List Nat} (h : (l ++ r).all (· ≤ reachBytes) = true) : l.all (· ≤ reachBytes) = true ∧ r.all (· ≤ reachBytes) = true := by
  simpa [List.all_append] using h
theorem weightsAll_at {P : Program} {e : TypeId} : ∀ (l : List (DataW H)) (h : (DataW.weightsAll P e l).all (· ≤ reachBytes) = true) (i : Nat) (hi : i < l.length), ((l[i]).weights P e).all (· ≤ reachBytes) = true
  | [], _, i, hi => by simp at hi
  | d :: l, h, 0, _ => by rw [DataW.weightsAll] at h; exact (all_append h).1
  | d :: l, h, i + 1, hi => by rw [DataW.weightsAll] at h; exact weightsAll_at l (all_append h).2 i (by simpa using hi)
theorem weightsEach_at {P : Program} : ∀ (ts : List TypeId) (l : List (DataW H)) (h : (DataW.weightsEach P ts l).all (· ≤ reachBytes) = true) (i : Nat) (t : TypeId) (d : DataW H), ts[i]? = some t → l[i]? = some d → (d.weights P t).all (· ≤ reachBytes) = true
  | [], _, _, i, _, _, h1, _ => by simp at h1
  | _ :: _, [], _, i, _, _, _, h2 => by simp at h2
  | a :: ts, d :: l, h, 0, _, _, h1, h2 => by
    rw [DataW.weightsEach] at h
    simp at h1 h2
    subst h1 h2
    exact (all_append h).1
  | a :: ts, d :: l, h, i + 1, t, x, h1, h2 => by
    rw [DataW.weightsEach] at h
    exact weightsEach_at ts l (all_append h).2 i t x (by simpa using h1) (by simpa using h2)
theorem add_none {a : Addr} (h : a.spot = none) (q : Nat) : a.add q = ⟨a.block, a.off + q, none⟩ := by
  obtain ⟨b, o, s⟩ := a
  simp only at h
  subst h
  unfold Addr.add
  split <;> simp_all
theorem spot_none {w : World} {a : Addr} {v : Value} (h : w.cell? a = some v) : a.spot = none ∧ a.block < w.heap.size := by
  unfold World.cell? at h
  split at h
  · rename_i hh
    refine ⟨?_, (Array.getElem?_eq_some_iff.1 hh).1⟩
    cases hs : a.spot with
    | none => rfl
    | some s => rw [hs] at h; simp at h
  · cases h
theorem open_row {t e : TypeId} {k bytes fuel : Nat} {cs : List Value} {x : DataW H × List MemPlace} (ht : Tryd.prog.underlying t = some (.slice e)) (hk : Tryd.prog.cellsOf e = k) (hk0 : 0 < k) (hby : Tryd.prog.bytesOf e = bytes)
    (h : DataW.trod enc Tryd.prog w 0 (fun _ => true) true fuel t cs = some x) (hw : (x.1.weights Tryd.prog t).all (· ≤ reachBytes) = true) :
    ∃ (a : Option Addr) (n c : Nat) (C : Nat → List Value) (m : Nat) (D : Nat → DataW H) (Pl : Nat → List MemPlace), cs = [.slice a n c] ∧ Sl (fun _ => True) k w (.slice a n c) n C ∧ n * bytes ≤ 140737488355328 ∧
      ∀ i, i < n → DataW.trod enc Tryd.prog w 0 (fun _ => true) true m e (C i) = some (D i, Pl i) ∧ ((D i).weights Tryd.prog e).all (· ≤ reachBytes) = true ∧ SizeOf.sizeOf (D i) < SizeOf.sizeOf x.1 := by
  rcases open_slice ht h with ⟨rfl, rfl⟩ | ⟨a, len, cap, m, n, D, Pl, rfl, _, hlc, hcm, hm, rfl, hx⟩
  · exact ⟨none, 0, 0, fun _ => [], 0, fun _ => .nil, fun _ => [], rfl, Sl.nil, by omega, fun i hi => absurd hi (Nat.not_lt_zero _)⟩
  · simp only [if_true] at hm
    subst hm
    rw [DataW.weights] at hw
    simp only [ht] at hw
    rw [List.all_cons, Bool.and_eq_true] at hw
    obtain ⟨hw1, hw2⟩ := hw
    have hwe := (all_append hw2).1
    simp only [List.length_map, List.length_range, hby, decide_eq_true_eq, reachBytes] at hw1
    rw [hk] at hx
    obtain ⟨C, hC⟩ := choose_lt (α := List Value) (p := fun i cs' => w.cells? 0 (a.add (i * k)) k = some cs' ∧ DataW.trod enc Tryd.prog w 0 (fun _ => true) true n e cs' = some (D i, Pl i)) hx
    refine ⟨some a, len, m, C, n, D, Pl, rfl, ⟨some a, m, rfl, hlc, hcm, fun hp => ?_⟩, ?_, fun i hi => ⟨(hC i (by omega)).2, ?_, ?_⟩⟩
    · obtain ⟨_, hl0, hc0⟩ := World.cells?_some (hC 0 (by omega)).1
      have h00 := hc0 0 hk0
      rw [Nat.zero_mul] at h00
      have e0 : (a.add 0).add 0 = a := by simp [Addr.add]
      rw [e0] at h00
      have hsome : ∃ v, (C 0)[0]? = some v := ⟨(C 0)[0]'(by omega), List.getElem?_eq_getElem (by omega)⟩
      obtain ⟨v, hv⟩ := hsome
      rw [hv] at h00
      obtain ⟨hs, hb⟩ := spot_none h00
      refine ⟨a.block, a.off, ?_, trivial, hb, fun i hi => ?_⟩
      · obtain ⟨b, o, s⟩ := a
        simp only at hs
        subst hs
        rfl
      · obtain ⟨_, hl, hc⟩ := World.cells?_some (hC i (by omega)).1
        refine ⟨hl, fun j hj => ?_⟩
        rw [← hc j hj, Deep.add_add, add_none hs, Nat.add_assoc]
    · have : len * bytes ≤ (len + (m - len)) * bytes := Nat.mul_le_mul_right _ (by omega)
      omega
    · have := weightsAll_at _ hwe i (by simpa using hi)
      simpa using this
    · have h1 : D i ∈ (List.range len).map D := List.mem_map.2 ⟨i, List.mem_range.2 hi, rfl⟩
      have h2 := List.sizeOf_lt_of_mem h1
      simp only [DataW.slice.sizeOf_spec]
      omega
end
end Go.Proofs.YtbiomnnlpafciaaDoor
