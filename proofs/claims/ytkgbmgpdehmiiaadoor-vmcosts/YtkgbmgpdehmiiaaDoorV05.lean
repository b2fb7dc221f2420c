import Derived.Test.YtkgbmgpdehmiiaaDoorV02
set_option linter.unusedVariables false
set_option linter.unusedSimpArgs false
set_option maxHeartbeats 64000000
set_option maxRecDepth 100000
namespace Go.Proofs.YtkgbmgpdehmiiaaDoor
open Go.RowKit Go.IntWalk
set_option linter.unusedVariables false
set_option linter.unusedSimpArgs false
/-- the cells of the first n things, one behind the other -/
def flat (C : Nat → List Value) : Nat → List Value
  | 0 => []
  | n + 1 => flat C n ++ C n
theorem flat_len {C : Nat → List Value} {k : Nat} : ∀ n, (∀ i, i < n → (C i).length = k) → (flat C n).length = n * k
  | 0, _ => by simp [flat]
  | n + 1, h => by
    rw [flat, List.length_append, flat_len n (fun i hi => h i (by omega)), h n (by omega), Nat.succ_mul]
theorem flat_get {C : Nat → List Value} {k : Nat} : ∀ n, (∀ i, i < n → (C i).length = k) → ∀ i j, i < n → j < k → (flat C n)[i * k + j]? = (C i)[j]?
  | 0, _, i, j, hi, _ => absurd hi (Nat.not_lt_zero _)
  | n + 1, h, i, j, hi, hj => by
    have hl := flat_len n (fun i hi => h i (by omega)) (C := C) (k := k)
    rw [flat]
    by_cases e : i = n
    · subst e
      rw [List.getElem?_append_right (by omega), hl]
      congr 1
      omega
    · have hin : i < n := by omega
      have : i * k + j < n * k := by
        have : (i + 1) * k ≤ n * k := Nat.mul_le_mul_right k (by omega)
        rw [Nat.succ_mul] at this
        omega
      rw [List.getElem?_append_left (by omega)]
      exact flat_get n (fun i hi => h i (by omega)) i j hin hj
theorem flat_mem {C : Nat → List Value} : ∀ n u, u ∈ flat C n → ∃ i, i < n ∧ u ∈ C i
  | 0, u, h => by simp [flat] at h
  | n + 1, u, h => by
    rw [flat, List.mem_append] at h
    rcases h with h | h
    · obtain ⟨i, hi, hu⟩ := flat_mem n u h
      exact ⟨i, by omega, hu⟩
    · exact ⟨n, by omega, h⟩
theorem flat_congr {C D : Nat → List Value} : ∀ n, (∀ i, i < n → C i = D i) → flat C n = flat D n
  | 0, _ => rfl
  | n + 1, h => by rw [flat, flat, flat_congr n (fun i hi => h i (by omega)), h n (by omega)]
theorem owns_sl {w : World} {base : Nat} {e : TypeId} {k : Nat} {v : Value} {n : Nat} {C : Nat → List Value} (h : w.ownsRow base e k v n (flat C n)) (hC : ∀ i, i < n → (C i).length = k) : Sl (fun i => base ≤ i) k w v n C := by
  by_cases hn : 0 < n
  · obtain ⟨g, cap, hv, h1, h2, h3, h4, h5⟩ := owns_pos h hn
    refine ⟨_, cap, hv, h3, h4, fun _ => ⟨g, 0, rfl, h1, h2, fun i hi => ⟨hC i hi, fun j hj => ?_⟩⟩⟩
    have hg := flat_get n hC i j hi hj
    have hjl : j < (C i).length := by rw [hC i hi]; exact hj
    have := h5 (i * k + j) ((C i)[j]) (by rw [hg]; exact List.getElem?_eq_getElem hjl)
    rw [Nat.zero_add, this, List.getElem?_eq_getElem hjl]
  · rcases h.2 with ⟨hv, h0⟩ | ⟨g, cap, cur, hv, hb, hg, hnc, hcm, hcs, htake⟩
    · exact ⟨none, 0, by rw [hv, h0], by omega, Nat.zero_le _, fun h => absurd h hn⟩
    · exact ⟨_, cap, hv, hnc, hcm, fun h => absurd h hn⟩
theorem Sl.news {ok : Nat → Prop} {k : Nat} {w : World} {b o : Nat} {n cap : Nat} {C : Nat → List Value} (hk : 0 < k) (h : Sl ok k w (.slice (some ⟨b, o, none⟩) n cap) n C) :
    ∀ q u, (flat C n)[q]? = some u → w.cell? ((⟨b, o, none⟩ : Addr).add q) = some u := by
  intro q u hq
  obtain ⟨ao, cap', hv, h1, h2, h3⟩ := h
  injection hv with e1 e2 e3
  subst e1
  have hlen : (flat C n).length ≤ n * k → q < n * k := fun h => by
    have := (List.getElem?_eq_some_iff.1 hq).1
    omega
  by_cases hn : 0 < n
  · obtain ⟨b', o', ha, _, _, hc⟩ := h3 hn
    injection ha with ha
    injection ha with ha1 ha2 ha3
    subst ha1 ha2
    have hl := flat_len n (fun i hi => (hc i hi).1)
    have hqn : q < n * k := hlen (by omega)
    have hqi : q / k < n := Nat.div_lt_of_lt_mul (by rw [Nat.mul_comm]; exact hqn)
    have hqj : q % k < k := Nat.mod_lt _ hk
    have hq' : q / k * k + q % k = q := by rw [Nat.mul_comm]; exact Nat.div_add_mod q k
    have hg := flat_get n (fun i hi => (hc i hi).1) (q / k) (q % k) hqi hqj
    rw [hq', hq] at hg
    have hcc := (hc (q / k) hqi).2 (q % k) hqj
    rw [← hg, Nat.add_assoc, hq'] at hcc
    have adds : (⟨b, o, none⟩ : Addr).add q = ⟨b, o + q, none⟩ := by unfold Addr.add; split <;> simp_all
    rw [adds]
    exact hcc
  · have : n = 0 := by omega
    subst this
    simp [flat] at hq
/-- append to a row of the call's own: what comes is the same row, or a new block -/
theorem run_push {P : Program} (w : World) (base : Nat) (t ty e : TypeId) (i : TypeInfo) (z : Value) (size bytes : Nat) (ht : P.underlying t = some (.slice e)) (hi : P.info? e = some i) (hz : i.zero = some z)
    (hsize : i.size = size) (hby : i.bytes = bytes) (hzs : z.cells.size = size) (hsz : 0 < size)
    (v : Value) (n : Nat) (xs : List Value) (hown : w.ownsRow base e size v n xs)
    (a : Addr) (m c : Nat) (news : List Value) (hl : news.length = m * size) (hnews : ∀ j u, news[j]? = some u → w.cell? (a.add j) = some u) (h1 : ∀ u ∈ news, u.oneCell' = true)
    (h63 : n + m ≤ maxLen) (hbytes : (n + m) * bytes ≤ 140737488355328) (hbase : base ≤ w.heap.size) :
    ∃ v' w', (Builtin.append_ #[t, t] ty #[v, .slice (some a) m c]).run P w = .ok v' w' ∧ w'.ownsRow base e size v' (n + m) (xs ++ news) ∧ w.grownBy w' v.ownBlock ∧ (v'.ownBlock = v.ownBlock ∨ ∃ k, v'.ownBlock = some k ∧ w.heap.size ≤ k) := by
  obtain ⟨v', w', hr, h2, h3, h4⟩ := run_append_own (P := P) w base t ty e i z size bytes ht hi hz hsize hby hzs hsz v n xs hown a m c news hl hnews h1 h63 hbytes hbase
  refine ⟨v', w', hr, h2, h3, ?_⟩
  have hcell := @World.ownsRow.cells _ _ _ _ _ _ _ hown
  rcases hown.2 with ⟨rfl, h0⟩ | ⟨g, cap, cur, rfl, hb, hg, hnc, hcm, hcs, htake⟩
  · obtain ⟨v2, w2, hr2, h22, _⟩ := run_append_own (P := P) w w.heap.size t ty e i z size bytes ht hi hz hsize hby hzs hsz (.slice none 0 0) n xs ⟨hown.1, .inl ⟨rfl, h0⟩⟩ a m c news hl hnews h1 h63 hbytes (Nat.le_refl _)
    rw [hr] at hr2
    injection hr2 with e1 e2
    subst e1 e2
    rcases h22.2 with ⟨rfl, _⟩ | ⟨g, cap, cur, rfl, hb, _⟩
    · exact .inl rfl
    · exact .inr ⟨g, rfl, hb⟩
  · by_cases hroom : n + m ≤ cap
    · subst hsize
      have hin : ∀ j, j < news.length → 0 + n * i.size + j < cur.size := fun j hj => by
        have : (n + m) * i.size ≤ cap * i.size := Nat.mul_le_mul_right _ hroom
        rw [Nat.add_mul] at this
        rw [hcs]
        omega
      have hr2 := run_append_room_cells (P := P) w t ty e i ht hi g 0 n cap a m c news hl hnews h1 hroom
        (fun j hj => by rw [cell_of hg]; have := hin j hj; simp at this ⊢; omega) (fun j hj => free_of hg _)
      rw [hr] at hr2
      injection hr2 with e1 e2
      subst e1
      exact .inl rfl
    · obtain ⟨v2, w2, hr2, h22, _⟩ := run_append_arg_grows (P := P) w t ty e i z size bytes ht hi hz hsize hby hzs hsz ⟨g, 0, none⟩ n cap xs hown.1 (fun j u hu => @hcell g rfl j u hu) a m c news hl hnews (by omega) h63 hbytes
      rw [hr] at hr2
      injection hr2 with e1 e2
      subst e1 e2
      rcases h22.2 with ⟨rfl, hz0⟩ | ⟨g', cap', cur', rfl, hb', _⟩
      · exfalso
        have : ¬ (0 : Nat) < n + m := by omega
        omega
      · exact .inr ⟨g', rfl, hb'⟩
theorem wpList_push {w : World} {ops : Array Oper} {rest : List Oper} {o : Oper} {a : Act} {Q : Exit → Act → World → Prop} (hgd : o.guard = none) (s x : Operand) (t : TypeId)
    (ho : o.op = .call { callee := .builtin .append, args := #[s, x], argTypes := #[t, t] })
    (base : Nat) (e : TypeId) (i : TypeInfo) (z : Value) (size bytes : Nat) (ht : Tryd.prog.underlying t = some (.slice e)) (hi : Tryd.prog.info? e = some i) (hz : i.zero = some z)
    (hsize : i.size = size) (hby : i.bytes = bytes) (hzs : z.cells.size = size) (hsz : 0 < size)
    (v : Value) (n : Nat) (xs : List Value) (hs : a.eval s = v) (hown : w.ownsRow base e size v n xs)
    (ad : Addr) (m c : Nat) (news : List Value) (hx : a.eval x = .slice (some ad) m c) (hl : news.length = m * size) (hnews : ∀ j u, news[j]? = some u → w.cell? (ad.add j) = some u) (h1 : ∀ u ∈ news, u.oneCell' = true)
    (h63 : n + m ≤ maxLen) (hbytes : (n + m) * bytes ≤ 140737488355328) (hbase : base ≤ w.heap.size)
    (h : ∀ v' w', w'.ownsRow base e size v' (n + m) (xs ++ news) → w.grownBy w' v.ownBlock → (v'.ownBlock = v.ownBlock ∨ ∃ k, v'.ownBlock = some k ∧ w.heap.size ≤ k) → wpList Tryd.prog ops Q rest (a.put o.dst v') w') : wpList Tryd.prog ops Q (o :: rest) a w := by
  obtain ⟨v', w', hr, h2, h3, h4⟩ := run_push (P := Tryd.prog) w base t o.type e i z size bytes ht hi hz hsize hby hzs hsz v n xs hown ad m c news hl hnews h1 h63 hbytes hbase
  refine wpList_plain hgd fun _ hK => ?_
  unfold Oper.wp execOp
  simp only [ho, resolve, invoke, builtin, Sem.run_bind, Sem.run_pure, Result.andThen_ok, List.map_toArray, List.map_cons, List.map_nil, hs, hx, hr]
  exact hK _ _ (h v' w' h2 h3 h4)
end Go.Proofs.YtkgbmgpdehmiiaaDoor
