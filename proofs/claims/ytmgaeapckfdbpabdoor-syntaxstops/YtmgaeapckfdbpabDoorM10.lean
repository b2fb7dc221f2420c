/-
  DERIVED. Rows of things in memory of the call's own; THE WALKS of the copies of names and of sizes.
-/
import Derived.Test.YtmgaeapckfdbpabDoorM09
import Derived.Test.YtmgaeapckfdbpabDoorM07
import Derived.Deep.Slices
import GoSem.ClaimJoined
namespace Go.Proofs.YtmgaeapckfdbpabDoor
open Go.RowKit Go.IntWalk
set_option linter.unusedVariables false
set_option linter.unusedSimpArgs false
set_option maxRecDepth 100000

/-- the cells of the first n things, one behind the other -/
def flat (C : Nat → List Value) : Nat → List Value
  | 0 => []
  | n + 1 => flat C n ++ C n
theorem flat_len {C : Nat → List Value} {k : Nat} : ∀ n, (∀ i, i < n → (C i).length = k) → (flat C n).length = n * k
  | 0, _ => by simp [flat]
  | n + 1, h => by
    rw [flat, List.length_append, flat_len n (fun i hi => h i (by omega)), h n (by omega), Nat.succ_mul]
theorem flat_get {C : Nat → List Value} {k : Nat} : ∀ n, (∀ i, i < n → (C i).length = k) → ∀ i j, i < n → j < k → (flat C n)[i * k + j]? = (C i)[j]?
  | 0, _, i, j, hi, _ => absurd hi (Nat.not_lt_zero _)
  | n + 1, h, i, j, hi, hj => by
    have hl := flat_len n (fun i hi => h i (by omega)) (C := C) (k := k)
    rw [flat]
    by_cases e : i = n
    · subst e
      rw [List.getElem?_append_right (by omega), hl]
      congr 1
      omega
    · have hin : i < n := by omega
      have : i * k + j < n * k := by
        have : (i + 1) * k ≤ n * k := Nat.mul_le_mul_right k (by omega)
        rw [Nat.succ_mul] at this
        omega
      rw [List.getElem?_append_left (by omega)]
      exact flat_get n (fun i hi => h i (by omega)) i j hin hj
theorem flat_mem {C : Nat → List Value} : ∀ n u, u ∈ flat C n → ∃ i, i < n ∧ u ∈ C i
  | 0, u, h => by simp [flat] at h
  | n + 1, u, h => by
    rw [flat, List.mem_append] at h
    rcases h with h | h
    · obtain ⟨i, hi, hu⟩ := flat_mem n u h
      exact ⟨i, by omega, hu⟩
    · exact ⟨n, by omega, h⟩
theorem flat_congr {C D : Nat → List Value} : ∀ n, (∀ i, i < n → C i = D i) → flat C n = flat D n
  | 0, _ => rfl
  | n + 1, h => by rw [flat, flat, flat_congr n (fun i hi => h i (by omega)), h n (by omega)]

theorem owns_sl {w : World} {base : Nat} {e : TypeId} {k : Nat} {v : Value} {n : Nat} {C : Nat → List Value} (h : w.ownsRow base e k v n (flat C n)) (hC : ∀ i, i < n → (C i).length = k) : Sl (fun i => base ≤ i) k w v n C := by
  by_cases hn : 0 < n
  · obtain ⟨g, cap, hv, h1, h2, h3, h4, h5⟩ := owns_pos h hn
    refine ⟨_, cap, hv, h3, h4, fun _ => ⟨g, 0, rfl, h1, h2, fun i hi => ⟨hC i hi, fun j hj => ?_⟩⟩⟩
    have hg := flat_get n hC i j hi hj
    have hjl : j < (C i).length := by rw [hC i hi]; exact hj
    have := h5 (i * k + j) ((C i)[j]) (by rw [hg]; exact List.getElem?_eq_getElem hjl)
    rw [Nat.zero_add, this, List.getElem?_eq_getElem hjl]
  · rcases h.2 with ⟨hv, h0⟩ | ⟨g, cap, cur, hv, hb, hg, hnc, hcm, hcs, htake⟩
    · exact ⟨none, 0, by rw [hv, h0], by omega, Nat.zero_le _, fun h => absurd h hn⟩
    · exact ⟨_, cap, hv, hnc, hcm, fun h => absurd h hn⟩

theorem Sl.news {ok : Nat → Prop} {k : Nat} {w : World} {b o : Nat} {n cap : Nat} {C : Nat → List Value} (hk : 0 < k) (h : Sl ok k w (.slice (some ⟨b, o, none⟩) n cap) n C) :
    ∀ q u, (flat C n)[q]? = some u → w.cell? ((⟨b, o, none⟩ : Addr).add q) = some u := by
  intro q u hq
  obtain ⟨ao, cap', hv, h1, h2, h3⟩ := h
  injection hv with e1 e2 e3
  subst e1
  have hlen : (flat C n).length ≤ n * k → q < n * k := fun h => by
    have := (List.getElem?_eq_some_iff.1 hq).1
    omega
  by_cases hn : 0 < n
  · obtain ⟨b', o', ha, _, _, hc⟩ := h3 hn
    injection ha with ha
    injection ha with ha1 ha2 ha3
    subst ha1 ha2
    have hl := flat_len n (fun i hi => (hc i hi).1)
    have hqn : q < n * k := hlen (by omega)
    have hqi : q / k < n := Nat.div_lt_of_lt_mul (by rw [Nat.mul_comm]; exact hqn)
    have hqj : q % k < k := Nat.mod_lt _ hk
    have hq' : q / k * k + q % k = q := by rw [Nat.mul_comm]; exact Nat.div_add_mod q k
    have hg := flat_get n (fun i hi => (hc i hi).1) (q / k) (q % k) hqi hqj
    rw [hq', hq] at hg
    have hcc := (hc (q / k) hqi).2 (q % k) hqj
    rw [← hg, Nat.add_assoc, hq'] at hcc
    have adds : (⟨b, o, none⟩ : Addr).add q = ⟨b, o + q, none⟩ := by unfold Addr.add; split <;> simp_all
    rw [adds]
    exact hcc
  · have : n = 0 := by omega
    subst this
    simp [flat] at hq

theorem Tryd.info86 : (Tryd.prog.info? 86).map (fun i => (i.zero, i.size, i.bytes)) = some (some (.agg #[.int .i64 0, .string ⟨#[]⟩]), 2, 24) := by kernel_rfl
theorem Tryd.info72 : (Tryd.prog.info? 72).map (fun i => (i.zero, i.size, i.bytes)) = some (some (.slice none 0 0), 1, 24) := by kernel_rfl

theorem nils35 (w : World) (c : Nat) (ty : TypeId) : (Builtin.append_ #[37, 37] ty #[.slice none 0 0, .slice none 0 c]).run Tryd.prog w = .ok (.slice none 0 0) w := by kernel_rfl
theorem nils90 (w : World) (c : Nat) (ty : TypeId) : (Builtin.append_ #[72, 72] ty #[.slice none 0 0, .slice none 0 c]).run Tryd.prog w = .ok (.slice none 0 0) w := by kernel_rfl

/-- append(nil, x...): a copy of x in new memory -/
theorem wpList_copy {w : World} {ops : Array Oper} {rest : List Oper} {o : Oper} {a : Act} {Q : Exit → Act → World → Prop} (hgd : o.guard = none) (s x : Operand) (t e : TypeId) (k bytes : Nat) (i : TypeInfo) (z : Value)
    (ho : o.op = .call { callee := .builtin .append, args := #[s, x], argTypes := #[t, t] }) (ht : Tryd.prog.underlying t = some (.slice e)) (hi : Tryd.prog.info? e = some i) (hz : i.zero = some z) (hsize : i.size = k) (hby : i.bytes = bytes) (hzs : z.cells.size = k) (hk : 0 < k)
    (hs : a.eval s = .slice none 0 0) {ok : Nat → Prop} {v : Value} {n : Nat} {C : Nat → List Value} (hx : a.eval x = v) (hS : Sl ok k w v n C) (hCl : ∀ i, i < n → (C i).length = k) (h1 : ∀ u, u ∈ flat C n → u.oneCell' = true) (hM : n * bytes ≤ 140737488355328) (hn : n ≤ maxLen) (hnil : ∀ (w : World) (c : Nat) (ty : TypeId), (Builtin.append_ #[t, t] ty #[.slice none 0 0, .slice none 0 c]).run Tryd.prog w = .ok (.slice none 0 0) w)
    (h : ∀ a' c' w', Sl (fun i => w.heap.size ≤ i) k w' (.slice a' n c') n C → Below w.heap.size w w' → wpList Tryd.prog ops Q rest (a.put o.dst (.slice a' n c')) w') : wpList Tryd.prog ops Q (o :: rest) a w := by
  have hS0 := hS
  obtain ⟨ao, cap, rfl, h2, h3, h4⟩ := hS
  cases ao with
  | none =>
    have hn0 : n = 0 := by
      by_cases hp : 0 < n
      · obtain ⟨b, o, hb, _⟩ := h4 hp
        cases hb
      · omega
    subst hn0
    have hrun := hnil w cap o.type
    refine wpList_plain hgd fun _ hK => ?_
    unfold Oper.wp
    simp [execOp, ho, resolve, invoke, builtin, hs, hx, hrun, Result.andThen]
    exact hK _ _ (h none 0 w Sl.nil (Below.refl _ _))
  | some ad =>
    have hnews : ∀ q u, (flat C n)[q]? = some u → w.cell? (ad.add q) = some u := by
      by_cases hp : 0 < n
      · obtain ⟨b, o, hb, _⟩ := h4 hp
        injection hb with hb
        subst hb
        exact Sl.news hk hS0
      · have hn0 : n = 0 := by omega
        subst hn0
        intro q u hq
        simp [flat] at hq
    refine wpList_append_own _ hgd s x t ho w.heap.size e i z k bytes ht hi hz hsize hby hzs hk _ 0 [] hs (World.ownsRow_nil _ _ _ _) ad n cap (flat C n) hx (flat_len n hCl) hnews h1 (by rw [Nat.zero_add]; exact hn) (by rw [Nat.zero_add]; exact hM) (Nat.le_refl _) ?_
    intro v3 w3 hown hgrow _
    have b3 : Below w.heap.size w w3 := (Below.refl _ w).grown hgrow (Nat.le_refl _) (fun k hk => by cases hk)
    have hown' : w3.ownsRow w.heap.size e k v3 n (flat C n) := by simpa using hown
    have hs3 := owns_sl hown' hCl
    have hs4 := hs3
    obtain ⟨ao3, cap3, rfl, _⟩ := hs4
    exact h _ _ _ hs3 b3

/-- the sizes of a list take no more room than there is -/
def FitS (S : List (List Tm)) : Prop := S.length * 24 ≤ 140737488355328 ∧ ∀ i (h : i < S.length), (S[i]).length * 24 ≤ 140737488355328

theorem terms_one {l : List Tm} {C : Nat → List Value} (hC : ∀ i (h : i < l.length), C i = [.int .i64 (l[i]).1, .string (l[i]).2]) : (∀ i, i < l.length → (C i).length = 2) ∧ ∀ u, u ∈ flat C l.length → u.oneCell' = true := by
  refine ⟨fun i hi => by rw [hC i hi]; rfl, fun u hu => ?_⟩
  obtain ⟨i, hi, hu⟩ := flat_mem _ _ hu
  rw [hC i hi] at hu
  simp at hu
  rcases hu with rfl | rfl <;> rfl


/-- append to a row of the call's own: what comes is the same row, or a new block -/
theorem run_push {P : Program} (w : World) (base : Nat) (t ty e : TypeId) (i : TypeInfo) (z : Value) (size bytes : Nat) (ht : P.underlying t = some (.slice e)) (hi : P.info? e = some i) (hz : i.zero = some z)
    (hsize : i.size = size) (hby : i.bytes = bytes) (hzs : z.cells.size = size) (hsz : 0 < size)
    (v : Value) (n : Nat) (xs : List Value) (hown : w.ownsRow base e size v n xs)
    (a : Addr) (m c : Nat) (news : List Value) (hl : news.length = m * size) (hnews : ∀ j u, news[j]? = some u → w.cell? (a.add j) = some u) (h1 : ∀ u ∈ news, u.oneCell' = true)
    (h63 : n + m ≤ maxLen) (hbytes : (n + m) * bytes ≤ 140737488355328) (hbase : base ≤ w.heap.size) :
    ∃ v' w', (Builtin.append_ #[t, t] ty #[v, .slice (some a) m c]).run P w = .ok v' w' ∧ w'.ownsRow base e size v' (n + m) (xs ++ news) ∧ w.grownBy w' v.ownBlock ∧ (v'.ownBlock = v.ownBlock ∨ ∃ k, v'.ownBlock = some k ∧ w.heap.size ≤ k) := by
  obtain ⟨v', w', hr, h2, h3, h4⟩ := run_append_own (P := P) w base t ty e i z size bytes ht hi hz hsize hby hzs hsz v n xs hown a m c news hl hnews h1 h63 hbytes hbase
  refine ⟨v', w', hr, h2, h3, ?_⟩
  have hcell := @World.ownsRow.cells _ _ _ _ _ _ _ hown
  rcases hown.2 with ⟨rfl, h0⟩ | ⟨g, cap, cur, rfl, hb, hg, hnc, hcm, hcs, htake⟩
  · obtain ⟨v2, w2, hr2, h22, _⟩ := run_append_own (P := P) w w.heap.size t ty e i z size bytes ht hi hz hsize hby hzs hsz (.slice none 0 0) n xs ⟨hown.1, .inl ⟨rfl, h0⟩⟩ a m c news hl hnews h1 h63 hbytes (Nat.le_refl _)
    rw [hr] at hr2
    injection hr2 with e1 e2
    subst e1 e2
    rcases h22.2 with ⟨rfl, _⟩ | ⟨g, cap, cur, rfl, hb, _⟩
    · exact .inl rfl
    · exact .inr ⟨g, rfl, hb⟩
  · by_cases hroom : n + m ≤ cap
    · subst hsize
      have hin : ∀ j, j < news.length → 0 + n * i.size + j < cur.size := fun j hj => by
        have : (n + m) * i.size ≤ cap * i.size := Nat.mul_le_mul_right _ hroom
        rw [Nat.add_mul] at this
        rw [hcs]
        omega
      have hr2 := run_append_room_cells (P := P) w t ty e i ht hi g 0 n cap a m c news hl hnews h1 hroom
        (fun j hj => by rw [cell_of hg]; have := hin j hj; simp at this ⊢; omega) (fun j hj => free_of hg _)
      rw [hr] at hr2
      injection hr2 with e1 e2
      subst e1
      exact .inl rfl
    · obtain ⟨v2, w2, hr2, h22, _⟩ := run_append_arg_grows (P := P) w t ty e i z size bytes ht hi hz hsize hby hzs hsz ⟨g, 0, none⟩ n cap xs hown.1 (fun j u hu => @hcell g rfl j u hu) a m c news hl hnews (by omega) h63 hbytes
      rw [hr] at hr2
      injection hr2 with e1 e2
      subst e1 e2
      rcases h22.2 with ⟨rfl, hz0⟩ | ⟨g', cap', cur', rfl, hb', _⟩
      · exfalso
        have : ¬ (0 : Nat) < n + m := by omega
        omega
      · exact .inr ⟨g', rfl, hb'⟩

theorem wpList_push {w : World} {ops : Array Oper} {rest : List Oper} {o : Oper} {a : Act} {Q : Exit → Act → World → Prop} (hgd : o.guard = none) (s x : Operand) (t : TypeId)
    (ho : o.op = .call { callee := .builtin .append, args := #[s, x], argTypes := #[t, t] })
    (base : Nat) (e : TypeId) (i : TypeInfo) (z : Value) (size bytes : Nat) (ht : Tryd.prog.underlying t = some (.slice e)) (hi : Tryd.prog.info? e = some i) (hz : i.zero = some z)
    (hsize : i.size = size) (hby : i.bytes = bytes) (hzs : z.cells.size = size) (hsz : 0 < size)
    (v : Value) (n : Nat) (xs : List Value) (hs : a.eval s = v) (hown : w.ownsRow base e size v n xs)
    (ad : Addr) (m c : Nat) (news : List Value) (hx : a.eval x = .slice (some ad) m c) (hl : news.length = m * size) (hnews : ∀ j u, news[j]? = some u → w.cell? (ad.add j) = some u) (h1 : ∀ u ∈ news, u.oneCell' = true)
    (h63 : n + m ≤ maxLen) (hbytes : (n + m) * bytes ≤ 140737488355328) (hbase : base ≤ w.heap.size)
    (h : ∀ v' w', w'.ownsRow base e size v' (n + m) (xs ++ news) → w.grownBy w' v.ownBlock → (v'.ownBlock = v.ownBlock ∨ ∃ k, v'.ownBlock = some k ∧ w.heap.size ≤ k) → wpList Tryd.prog ops Q rest (a.put o.dst v') w') : wpList Tryd.prog ops Q (o :: rest) a w := by
  obtain ⟨v', w', hr, h2, h3, h4⟩ := run_push (P := Tryd.prog) w base t o.type e i z size bytes ht hi hz hsize hby hzs hsz v n xs hown ad m c news hl hnews h1 h63 hbytes hbase
  refine wpList_plain hgd fun _ hK => ?_
  unfold Oper.wp execOp
  simp only [ho, resolve, invoke, builtin, Sem.run_bind, Sem.run_pure, Result.andThen_ok, List.map_toArray, List.map_cons, List.map_nil, hs, hx, hr]
  exact hK _ _ (h v' w' h2 h3 h4)

end Go.Proofs.YtmgaeapckfdbpabDoor


/-
  DERIVED. THE WALK of the copy of sizes.
-/
namespace Go.Proofs.YtmgaeapckfdbpabDoor
open Go.RowKit Go.IntWalk
set_option linter.unusedVariables false
set_option linter.unusedSimpArgs false
set_option maxRecDepth 100000

/-- the row that v is, or a new block -/
def Moved (W : World) (v v' : Value) : Prop := v'.ownBlock = v.ownBlock ∨ ∃ k, v'.ownBlock = some k ∧ W.heap.size ≤ k
/-- what lies from B on, but not in v's row -/
def Off (B : Nat) (v : Value) (k : Nat) : Prop := B ≤ k ∧ some k ≠ v.ownBlock
theorem Off.moved {B : Nat} {W : World} {v v' : Value} (h : Moved W v v') {k : Nat} (hk : Off B v k) (hl : k < W.heap.size) : Off B v' k := by
  refine ⟨hk.1, fun e => ?_⟩
  rcases h with h | ⟨q, hq, hz⟩
  · exact hk.2 (e.trans h)
  · rw [hq] at e
    injection e with e
    omega
theorem Off.new {B N : Nat} {w : World} {e : TypeId} {size : Nat} {v : Value} {n : Nat} {xs : List Value} (h : w.ownsRow B e size v n xs) (hN : w.heap.size ≤ N) (hB : B ≤ N) {k : Nat} (hk : N ≤ k) : Off B v k := by
  refine ⟨by omega, fun e => ?_⟩
  have := World.ownsRow.lt h k e.symm
  omega
theorem grown_keep {B : Nat} {W W' : World} {v : Value} (h : W.grownBy W' v.ownBlock) : ∀ k, Off B v k → k < W.heap.size → W'.heap[k]? = W.heap[k]? := fun k hk hl => h.block k hl hk.2
theorem Below.push {B : Nat} {w W W' : World} {v : Value} {e : TypeId} {size n : Nat} {xs : List Value} (hb : Below B w W) (hB : B ≤ W.heap.size) (ho : W.ownsRow B e size v n xs) (hg : W.grownBy W' v.ownBlock) : Below B w W' :=
  hb.grown hg hB (fun k hk => (World.ownsRow.lt ho k hk).1)

end Go.Proofs.YtmgaeapckfdbpabDoor


/-
  DERIVED. THE WALK of the copy of declarations.
-/
namespace Go.Proofs.YtmgaeapckfdbpabDoor
open Go.RowKit Go.IntWalk
set_option linter.unusedVariables false
set_option linter.unusedSimpArgs false
set_option maxRecDepth 100000

def FitD (l : List De) : Prop := l.length * 48 ≤ 140737488355328 ∧ ∀ i (h : i < l.length), (l[i]).n.length * 24 ≤ 140737488355328
theorem HTerms.set {ok : Nat → Prop} {w : World} {v : Value} {l : List Tm} (h : HTerms ok w v l) {p : Addr} (hp : ¬ ok p.block) (u : Value) : HTerms ok (w.setCell p u) v l :=
  h.keep (by simp [World.setCell]) fun i hi hl => Below.heap_setCell _ _ _ _ (fun e => hp (e ▸ hi))

theorem owns_set {w : World} {base : Nat} {e : TypeId} {size : Nat} {v : Value} {n : Nat} {xs : List Value} (h : w.ownsRow base e size v n xs) {p : Addr} (hp : v.ownBlock ≠ some p.block) (u : Value) : (w.setCell p u).ownsRow base e size v n xs :=
  h.kept (row := some p.block) ⟨rfl, rfl, rfl, by simp [World.setCell], fun k _ hk => Below.heap_setCell _ _ _ _ (fun e => hk (by rw [e]))⟩ (.inr hp)

theorem size_set (w : World) (p : Addr) (u : Value) : (w.setCell p u).heap.size = w.heap.size := by simp [World.setCell]
theorem new3s (w : World) (p : Addr) (q a b c : Value) (t : TypeId) : ∀ j u, [a, b, c][j]? = some u → ((w.setCell p q).alloc (.cells #[a, b, c] t)).cell? ((⟨w.heap.size, 0, none⟩ : Addr).add j) = some u := by
  have := new3 (w.setCell p q) a b c t
  rw [size_set] at this
  exact this

end Go.Proofs.YtmgaeapckfdbpabDoor


/-
  DERIVED. THE WALK of the copy of expressions.
-/
namespace Go.Proofs.YtmgaeapckfdbpabDoor
open Go.RowKit Go.IntWalk
set_option linter.unusedVariables false
set_option linter.unusedSimpArgs false
set_option maxRecDepth 100000

inductive FitX : Ex → Prop
  | mk {o k n : Int} {s : ByteArray} {S : List (List Tm)} {L : List Ex} (hS : FitS S) (hL : L.length * 88 ≤ 140737488355328) (hE : ∀ i (h : i < L.length), FitX L[i]) : FitX (.mk o k n s S L)
def FitXs (L : List Ex) : Prop := L.length * 88 ≤ 140737488355328 ∧ ∀ i (h : i < L.length), FitX L[i]
theorem FitX.parts {e : Ex} (h : FitX e) : FitS e.S ∧ FitXs e.L := by
  cases h with
  | mk hS hL hE => exact ⟨hS, hL, hE⟩
theorem HEx.make {ok : Nat → Prop} {w : World} {x : ExV} {e : Ex} (h1 : x.op = e.op) (h2 : x.k = e.k) (h3 : x.n = e.n) (h4 : x.name = e.name) (hS : HSizes ok w (.slice x.aS x.nS x.cS) e.S) (hL : HExs ok w (.slice x.aL x.nL x.cL) e.L) : HEx ok w x.cells e := by
  obtain ⟨o, k, n, s, S, L⟩ := e
  obtain ⟨xo, xk, xn, xs, a, b, c, d, f, g⟩ := x
  simp only [Ex.op, Ex.k, Ex.n, Ex.name, Ex.S, Ex.L] at h1 h2 h3 h4 hS hL
  subst h1 h2 h3 h4
  obtain ⟨C, hl, hE⟩ := hL
  exact .mk C hS hl hE
theorem HExs.wide {ok ok' : Nat → Prop} {w : World} {v : Value} {l : List Ex} (h : HExs ok w v l) (hk : ∀ i, ok i → i < w.heap.size → ok' i) : HExs ok' w v l := by
  obtain ⟨C, h1, h2⟩ := h
  exact ⟨C, h1.wide hk, fun i hi => (h2 i hi).wide hk⟩
theorem HSizes.set {ok : Nat → Prop} {w : World} {v : Value} {l : List (List Tm)} (h : HSizes ok w v l) {p : Addr} (hp : ¬ ok p.block) (u : Value) : HSizes ok (w.setCell p u) v l :=
  h.keep (by simp [World.setCell]) fun i hi hl => Below.heap_setCell _ _ _ _ (fun e => hp (e ▸ hi))
theorem HExs.set {ok : Nat → Prop} {w : World} {v : Value} {l : List Ex} (h : HExs ok w v l) {p : Addr} (hp : ¬ ok p.block) (u : Value) : HExs ok (w.setCell p u) v l :=
  h.keep (by simp [World.setCell]) fun i hi hl => Below.heap_setCell _ _ _ _ (fun e => hp (e ▸ hi))
theorem new6s (w : World) (p : Addr) (q a b c d e f : Value) (t : TypeId) : ∀ j u, [a, b, c, d, e, f][j]? = some u → ((w.setCell p q).alloc (.cells #[a, b, c, d, e, f] t)).cell? ((⟨w.heap.size, 0, none⟩ : Addr).add j) = some u := by
  intro j u hj
  have hn := heap_new (w.setCell p q) (.cells #[a, b, c, d, e, f] t (0, 0))
  rw [size_set] at hn
  have adds : (⟨w.heap.size, 0, none⟩ : Addr).add j = ⟨w.heap.size, j, none⟩ := by unfold Addr.add; split <;> simp_all
  rw [adds, cell_of hn]
  rw [List.getElem?_toArray]
  exact hj
theorem Tryd.info47 : (Tryd.prog.info? 47).map (fun i => (i.zero, i.size, i.bytes)) = some (some (.agg #[.int .i64 0, .int .i64 0, .int .i64 0, .string ⟨#[]⟩, .slice none 0 0, .slice none 0 0]), 6, 88) := by kernel_rfl

end Go.Proofs.YtmgaeapckfdbpabDoor


/-
  DERIVED. What came in, opened: a slice whose elements are of k cells each.
-/
namespace Go.Proofs.YtmgaeapckfdbpabDoor
open Go.RowKit Go.IntWalk Go.Deep
set_option linter.unusedVariables false
set_option linter.unusedSimpArgs false
set_option maxRecDepth 100000

section
variable {H : Type} {enc : TypeId × Value → H} {w : World}

theorem all_append {l r : List Nat} (h : (l ++ r).all (· ≤ reachBytes) = true) : l.all (· ≤ reachBytes) = true ∧ r.all (· ≤ reachBytes) = true := by
  simpa [List.all_append] using h

theorem weightsAll_at {P : Program} {e : TypeId} : ∀ (l : List (DataW H)) (h : (DataW.weightsAll P e l).all (· ≤ reachBytes) = true) (i : Nat) (hi : i < l.length), ((l[i]).weights P e).all (· ≤ reachBytes) = true
  | [], _, i, hi => by simp at hi
  | d :: l, h, 0, _ => by rw [DataW.weightsAll] at h; exact (all_append h).1
  | d :: l, h, i + 1, hi => by rw [DataW.weightsAll] at h; exact weightsAll_at l (all_append h).2 i (by simpa using hi)

theorem weightsEach_at {P : Program} : ∀ (ts : List TypeId) (l : List (DataW H)) (h : (DataW.weightsEach P ts l).all (· ≤ reachBytes) = true) (i : Nat) (t : TypeId) (d : DataW H), ts[i]? = some t → l[i]? = some d → (d.weights P t).all (· ≤ reachBytes) = true
  | [], _, _, i, _, _, h1, _ => by simp at h1
  | _ :: _, [], _, i, _, _, _, h2 => by simp at h2
  | a :: ts, d :: l, h, 0, _, _, h1, h2 => by
    rw [DataW.weightsEach] at h
    simp at h1 h2
    subst h1 h2
    exact (all_append h).1
  | a :: ts, d :: l, h, i + 1, t, x, h1, h2 => by
    rw [DataW.weightsEach] at h
    exact weightsEach_at ts l (all_append h).2 i t x (by simpa using h1) (by simpa using h2)

theorem add_none {a : Addr} (h : a.spot = none) (q : Nat) : a.add q = ⟨a.block, a.off + q, none⟩ := by
  obtain ⟨b, o, s⟩ := a
  simp only at h
  subst h
  unfold Addr.add
  split <;> simp_all

theorem spot_none {w : World} {a : Addr} {v : Value} (h : w.cell? a = some v) : a.spot = none ∧ a.block < w.heap.size := by
  unfold World.cell? at h
  split at h
  · rename_i hh
    refine ⟨?_, (Array.getElem?_eq_some_iff.1 hh).1⟩
    cases hs : a.spot with
    | none => rfl
    | some s => rw [hs] at h; simp at h
  · cases h

theorem open_row {t e : TypeId} {k bytes fuel : Nat} {cs : List Value} {x : DataW H × List MemPlace} (ht : Tryd.prog.underlying t = some (.slice e)) (hk : Tryd.prog.cellsOf e = k) (hk0 : 0 < k) (hby : Tryd.prog.bytesOf e = bytes)
    (h : DataW.trod enc Tryd.prog w 0 (fun _ => true) true fuel t cs = some x) (hw : (x.1.weights Tryd.prog t).all (· ≤ reachBytes) = true) :
    ∃ (a : Option Addr) (n c : Nat) (C : Nat → List Value) (m : Nat) (D : Nat → DataW H) (Pl : Nat → List MemPlace), cs = [.slice a n c] ∧ Sl (fun _ => True) k w (.slice a n c) n C ∧ n * bytes ≤ 140737488355328 ∧
      ∀ i, i < n → DataW.trod enc Tryd.prog w 0 (fun _ => true) true m e (C i) = some (D i, Pl i) ∧ ((D i).weights Tryd.prog e).all (· ≤ reachBytes) = true ∧ SizeOf.sizeOf (D i) < SizeOf.sizeOf x.1 := by
  rcases open_slice ht h with ⟨rfl, rfl⟩ | ⟨a, len, cap, m, n, D, Pl, rfl, _, hlc, hcm, hm, rfl, hx⟩
  · exact ⟨none, 0, 0, fun _ => [], 0, fun _ => .nil, fun _ => [], rfl, Sl.nil, by omega, fun i hi => absurd hi (Nat.not_lt_zero _)⟩
  · simp only [if_true] at hm
    subst hm
    rw [DataW.weights] at hw
    simp only [ht] at hw
    rw [List.all_cons, Bool.and_eq_true] at hw
    obtain ⟨hw1, hw2⟩ := hw
    have hwe := (all_append hw2).1
    simp only [List.length_map, List.length_range, hby, decide_eq_true_eq, reachBytes] at hw1
    rw [hk] at hx
    obtain ⟨C, hC⟩ := choose_lt (α := List Value) (p := fun i cs' => w.cells? 0 (a.add (i * k)) k = some cs' ∧ DataW.trod enc Tryd.prog w 0 (fun _ => true) true n e cs' = some (D i, Pl i)) hx
    refine ⟨some a, len, m, C, n, D, Pl, rfl, ⟨some a, m, rfl, hlc, hcm, fun hp => ?_⟩, ?_, fun i hi => ⟨(hC i (by omega)).2, ?_, ?_⟩⟩
    · obtain ⟨_, hl0, hc0⟩ := World.cells?_some (hC 0 (by omega)).1
      have h00 := hc0 0 hk0
      rw [Nat.zero_mul] at h00
      have e0 : (a.add 0).add 0 = a := by simp [Addr.add]
      rw [e0] at h00
      have hsome : ∃ v, (C 0)[0]? = some v := ⟨(C 0)[0]'(by omega), List.getElem?_eq_getElem (by omega)⟩
      obtain ⟨v, hv⟩ := hsome
      rw [hv] at h00
      obtain ⟨hs, hb⟩ := spot_none h00
      refine ⟨a.block, a.off, ?_, trivial, hb, fun i hi => ?_⟩
      · obtain ⟨b, o, s⟩ := a
        simp only at hs
        subst hs
        rfl
      · obtain ⟨_, hl, hc⟩ := World.cells?_some (hC i (by omega)).1
        refine ⟨hl, fun j hj => ?_⟩
        rw [← hc j hj, Deep.add_add, add_none hs, Nat.add_assoc]
    · have : len * bytes ≤ (len + (m - len)) * bytes := Nat.mul_le_mul_right _ (by omega)
      omega
    · have := weightsAll_at _ hwe i (by simpa using hi)
      simpa using this
    · have h1 : D i ∈ (List.range len).map D := List.mem_map.2 ⟨i, List.mem_range.2 hi, rfl⟩
      have h2 := List.sizeOf_lt_of_mem h1
      simp only [DataW.slice.sizeOf_spec]
      omega
end

end Go.Proofs.YtmgaeapckfdbpabDoor
