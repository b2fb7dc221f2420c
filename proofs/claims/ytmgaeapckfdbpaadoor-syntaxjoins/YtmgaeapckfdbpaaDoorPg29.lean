
/-
  DERIVED. THE WALK of the reader's forms, whatever comes.
-/
import Derived.Test.YtmgaeapckfdbpaaDoorM32
import Derived.Laws.EntriesVeiled
namespace Go.Proofs.YtmgaeapckfdbpaaDoor
open Go.RowKit Go.IntWalk
set_option linter.unusedVariables false
set_option linter.unusedSimpArgs false
set_option maxRecDepth 100000


set_option maxHeartbeats 16000000 in
theorem form_any : FormC := by
  intro b g cap I op J HJ nx w h hG
  have hb := h.bb
  have hg := h.gb
  have h1 := hG.one
  have hmf := makes
  have hent := enter134
  obtain ⟨W, hW⟩ : ∃ W, W = ((((w.alloc (.cells #[.pointer (some ⟨b, 0, none⟩)] 66 (0, 0))).alloc (.cells #[.int .i64 0, .int .i64 0, .int .i64 0, .string ⟨#[]⟩, .slice none 0 0, .slice none 0 0] 46 (0, 0))).alloc (.cells #[.int .i64 0, .int .i64 0, .int .i64 0, .string ⟨#[]⟩, .slice none 0 0, .slice none 0 0] 46 (0, 0))).alloc (.cells #[Value.func (.func 94) #[] #[.pointer (some ⟨w.heap.size + 1 + 1, 0, none⟩), .pointer (some ⟨w.heap.size, 0, none⟩)]] 1 (0, 0))) := ⟨_, rfl⟩
  have zW : W.heap.size = w.heap.size + 1 + 1 + 1 + 1 := by rw [hW]; simp
  have bW : Below w.heap.size w W := by rw [hW]; exact ((((Below.refl _ w).alloc (Nat.le_refl _) _).alloc (by simp) _).alloc (by simp; omega) _).alloc (by simp; omega) _
  have rW : W.heap[w.heap.size]? = some (.cells #[.pointer (some ⟨b, 0, none⟩)] 66 (0, 0)) := by
    have q := heap_new w (.cells #[.pointer (some ⟨b, 0, none⟩)] 66 (0, 0))
    rw [hW]
    exact (keep_alloc (keep_alloc (keep_alloc q _) _) _)
  have nW : W.heap[w.heap.size + 1]? = some (.cells #[.int .i64 0, .int .i64 0, .int .i64 0, .string ⟨#[]⟩, .slice none 0 0, .slice none 0 0] 46 (0, 0)) := by
    have q := heap_new (w.alloc (.cells #[.pointer (some ⟨b, 0, none⟩)] 66 (0, 0))) (.cells #[.int .i64 0, .int .i64 0, .int .i64 0, .string ⟨#[]⟩, .slice none 0 0, .slice none 0 0] 46 (0, 0))
    have z : (w.alloc (.cells #[.pointer (some ⟨b, 0, none⟩)] 66 (0, 0))).heap.size = w.heap.size + 1 := by simp
    rw [z] at q
    rw [hW]
    exact (keep_alloc (keep_alloc q _) _)
  have eW : W.heap[w.heap.size + 1 + 1]? = some (.cells #[.int .i64 0, .int .i64 0, .int .i64 0, .string ⟨#[]⟩, .slice none 0 0, .slice none 0 0] 46 (0, 0)) := by
    have q := heap_new ((w.alloc (.cells #[.pointer (some ⟨b, 0, none⟩)] 66 (0, 0))).alloc (.cells #[.int .i64 0, .int .i64 0, .int .i64 0, .string ⟨#[]⟩, .slice none 0 0, .slice none 0 0] 46 (0, 0))) (.cells #[.int .i64 0, .int .i64 0, .int .i64 0, .string ⟨#[]⟩, .slice none 0 0, .slice none 0 0] 46 (0, 0))
    have z : ((w.alloc (.cells #[.pointer (some ⟨b, 0, none⟩)] 66 (0, 0))).alloc (.cells #[.int .i64 0, .int .i64 0, .int .i64 0, .string ⟨#[]⟩, .slice none 0 0, .slice none 0 0] 46 (0, 0))).heap.size = w.heap.size + 1 + 1 := by simp
    rw [z] at q
    rw [hW]
    exact (keep_alloc q _)
  have pW : W.heap[w.heap.size + 1 + 1 + 1]? = some (.cells #[Value.func (.func 94) #[] #[.pointer (some ⟨w.heap.size + 1 + 1, 0, none⟩), .pointer (some ⟨w.heap.size, 0, none⟩)]] 1 (0, 0)) := by
    have q := heap_new (((w.alloc (.cells #[.pointer (some ⟨b, 0, none⟩)] 66 (0, 0))).alloc (.cells #[.int .i64 0, .int .i64 0, .int .i64 0, .string ⟨#[]⟩, .slice none 0 0, .slice none 0 0] 46 (0, 0))).alloc (.cells #[.int .i64 0, .int .i64 0, .int .i64 0, .string ⟨#[]⟩, .slice none 0 0, .slice none 0 0] 46 (0, 0))) (.cells #[Value.func (.func 94) #[] #[.pointer (some ⟨w.heap.size + 1 + 1, 0, none⟩), .pointer (some ⟨w.heap.size, 0, none⟩)]] 1 (0, 0))
    have z : (((w.alloc (.cells #[.pointer (some ⟨b, 0, none⟩)] 66 (0, 0))).alloc (.cells #[.int .i64 0, .int .i64 0, .int .i64 0, .string ⟨#[]⟩, .slice none 0 0, .slice none 0 0] 46 (0, 0))).alloc (.cells #[.int .i64 0, .int .i64 0, .int .i64 0, .string ⟨#[]⟩, .slice none 0 0, .slice none 0 0] 46 (0, 0))).heap.size = w.heap.size + 1 + 1 + 1 := by simp
    rw [z] at q
    rw [hW]
    exact q
  have hRW := h.below bW
  have AW : Aside [b] w.heap.size w W := aside bW
  have cr := cell_of rW 0
  have cp := cell_of pW 0
  simp only [List.getElem?_toArray, List.getElem?_cons_zero] at cr cp
  have m0 : Hid (∀ (q : Res Ex), Ps.form I J nx = q ↔ Ps.form I J nx = q) := fun _ => Iff.rfl
  obtain ⟨tx, htx⟩ : ∃ tx, tx = (I.pk nx).text := ⟨_, rfl⟩
  have hsees : ∀ s, Ps.sees I s nx = (tx == s) := fun s => by unfold Ps.sees; rw [htx]
  have HSEE := hide hsees
  rw [← htx]
  have HTX := hide htx
  clear hsees htx m0
  have htl : (str tx).toList = tx := by rw [Lib.toList_data]; rfl
  go_enter Tryd.func92, Tryd.ntmps92
  go_upto_region 7 with fail
  rw [← hW]
  clear hW
  cases q0 : (tx == [109, 105, 110]) with
  | true =>
    have hlt : nx < I.L.length := sees_lt (s := [109, 105, 110]) (by rw [HSEE.out]; exact q0) (by simp)
    have hQ : (W.alloc (.cells #[Value.func (.func 94) #[] #[.pointer (some ⟨w.heap.size + 1 + 1, 0, none⟩), .pointer (some ⟨w.heap.size, 0, none⟩)], Value.func (.func 94) #[] #[.pointer (some ⟨w.heap.size + 1 + 1, 0, none⟩), .pointer (some ⟨w.heap.size, 0, none⟩)]] 1 (0, 0))).heap[w.heap.size + 1 + 1 + 1 + 1]? = some (.cells ((.part :: [.part]).map (fvOf (w.heap.size + 1 + 1) (w.heap.size) (w.heap.size + 1 + 1 + 1))).toArray 1 (0, 0)) := by
      have q := heap_new W (.cells #[Value.func (.func 94) #[] #[.pointer (some ⟨w.heap.size + 1 + 1, 0, none⟩), .pointer (some ⟨w.heap.size, 0, none⟩)], Value.func (.func 94) #[] #[.pointer (some ⟨w.heap.size + 1 + 1, 0, none⟩), .pointer (some ⟨w.heap.size, 0, none⟩)]] 1 (0, 0))
      rw [zW] at q
      exact q
    have zQ : (W.alloc (.cells #[Value.func (.func 94) #[] #[.pointer (some ⟨w.heap.size + 1 + 1, 0, none⟩), .pointer (some ⟨w.heap.size, 0, none⟩)], Value.func (.func 94) #[] #[.pointer (some ⟨w.heap.size + 1 + 1, 0, none⟩), .pointer (some ⟨w.heap.size, 0, none⟩)]] 1 (0, 0))).heap.size = w.heap.size + 1 + 1 + 1 + 1 + 1 := by simp [zW]
    go_wp2_with fail
    refine (form5_any (p := .part) (ps := [.part]) (o := 5) (k := 6) (pb := w.heap.size + 1 + 1 + 1) (qb := w.heap.size + 1 + 1 + 1 + 1) (tq := 1) HJ hlt (hRW.alloc _) ((hG.far AW).alloc _) (by omega) (by omega) (by omega) (by omega) (by omega) (by omega) (by omega) (by omega) (by omega) (keep_alloc rW _) (keep_alloc pW _) hQ (keep_alloc eW _) (by decide)).mono ?_
    rintro r w1 ⟨a1, hres⟩
    have z1 := a1.size
    have A1 : Aside [b] w.heap.size w w1 := (AW.alloc (by omega) (.cells #[Value.func (.func 94) #[] #[.pointer (some ⟨w.heap.size + 1 + 1, 0, none⟩), .pointer (some ⟨w.heap.size, 0, none⟩)], Value.func (.func 94) #[] #[.pointer (some ⟨w.heap.size + 1 + 1, 0, none⟩), .pointer (some ⟨w.heap.size, 0, none⟩)]] 1 (0, 0))).trans ((a1.mono (B' := w.heap.size) (by omega)).wide (fun x hx hn hm => by simp at hm hn; omega)) (Nat.le_refl _)
    have hN1 := a1.keep (keep_alloc nW (.cells #[Value.func (.func 94) #[] #[.pointer (some ⟨w.heap.size + 1 + 1, 0, none⟩), .pointer (some ⟨w.heap.size, 0, none⟩)], Value.func (.func 94) #[] #[.pointer (some ⟨w.heap.size + 1 + 1, 0, none⟩), .pointer (some ⟨w.heap.size, 0, none⟩)]] 1 (0, 0))) (by omega) (by simp; omega)
    cases ht : (Ps.opn I J nx fun A n1 => Ps.brackets I (Ps.exprOf I A) .part [.part] (Ps.bare 5 6) n1) with
    | err c0 a0 =>
      rw [ht] at hres
      obtain rfl : r = _ := hres
      exact ⟨rfl, Post.fail (by unfold Ps.form; simp only [HSEE.out, q0, if_true, Bool.false_eq_true, if_false]; exact ht) A1⟩
    | ok e1 n1 =>
      rw [ht] at hres
      obtain ⟨le1, h1, _, rfl, y, rfl, he1⟩ := hres
      have HT : Hid (Ps.form I J nx = .ok e1 n1) := by
        show Ps.form I J nx = _
        unfold Ps.form; simp only [HSEE.out, q0, if_true, Bool.false_eq_true, if_false]
        exact ht
      clear ht
      have fa := fun o => free_of hN1 o
      have ca0 := cell_of hN1 0
      have ca1 := cell_of hN1 1
      have ca2 := cell_of hN1 2
      have ca3 := cell_of hN1 3
      have ca4 := cell_of hN1 4
      have ca5 := cell_of hN1 5
      simp at ca0 ca1 ca2 ca3 ca4 ca5
      have he2 := he1.wide (ok' := fun i => w.heap.size + 1 < i) (fun i hi hl => by omega)
      go_wp2
      refine bodyPost_ret (v := .agg #[.int .i64 y.op, .int .i64 y.k, .int .i64 y.n, .string y.name, .slice y.aS y.nS y.cS, .slice y.aL y.nL y.cL]) (by simp [results, Tryd.results92, go_sem, ca0, ca1, ca2, ca3, ca4, ca5]) rfl ?_
      exact Post.good HT.out (A1.put6 (k := w.heap.size + 1) (by omega) y) le1 (h1.put6 (k := w.heap.size + 1) (by omega) (by omega) y) ⟨y, rfl, (he2.put6 (k := w.heap.size + 1) (by simp) y).wide (fun i hi _ => by omega)⟩
  | false =>
    cases q1 : (tx == [109, 97, 120]) with
    | true =>
      have hlt : nx < I.L.length := sees_lt (s := [109, 97, 120]) (by rw [HSEE.out]; exact q1) (by simp)
      have hQ : (W.alloc (.cells #[Value.func (.func 94) #[] #[.pointer (some ⟨w.heap.size + 1 + 1, 0, none⟩), .pointer (some ⟨w.heap.size, 0, none⟩)], Value.func (.func 94) #[] #[.pointer (some ⟨w.heap.size + 1 + 1, 0, none⟩), .pointer (some ⟨w.heap.size, 0, none⟩)]] 1 (0, 0))).heap[w.heap.size + 1 + 1 + 1 + 1]? = some (.cells ((.part :: [.part]).map (fvOf (w.heap.size + 1 + 1) (w.heap.size) (w.heap.size + 1 + 1 + 1))).toArray 1 (0, 0)) := by
        have q := heap_new W (.cells #[Value.func (.func 94) #[] #[.pointer (some ⟨w.heap.size + 1 + 1, 0, none⟩), .pointer (some ⟨w.heap.size, 0, none⟩)], Value.func (.func 94) #[] #[.pointer (some ⟨w.heap.size + 1 + 1, 0, none⟩), .pointer (some ⟨w.heap.size, 0, none⟩)]] 1 (0, 0))
        rw [zW] at q
        exact q
      have zQ : (W.alloc (.cells #[Value.func (.func 94) #[] #[.pointer (some ⟨w.heap.size + 1 + 1, 0, none⟩), .pointer (some ⟨w.heap.size, 0, none⟩)], Value.func (.func 94) #[] #[.pointer (some ⟨w.heap.size + 1 + 1, 0, none⟩), .pointer (some ⟨w.heap.size, 0, none⟩)]] 1 (0, 0))).heap.size = w.heap.size + 1 + 1 + 1 + 1 + 1 := by simp [zW]
      go_wp2_with fail
      refine (form5_any (p := .part) (ps := [.part]) (o := 5) (k := 7) (pb := w.heap.size + 1 + 1 + 1) (qb := w.heap.size + 1 + 1 + 1 + 1) (tq := 1) HJ hlt (hRW.alloc _) ((hG.far AW).alloc _) (by omega) (by omega) (by omega) (by omega) (by omega) (by omega) (by omega) (by omega) (by omega) (keep_alloc rW _) (keep_alloc pW _) hQ (keep_alloc eW _) (by decide)).mono ?_
      rintro r w1 ⟨a1, hres⟩
      have z1 := a1.size
      have A1 : Aside [b] w.heap.size w w1 := (AW.alloc (by omega) (.cells #[Value.func (.func 94) #[] #[.pointer (some ⟨w.heap.size + 1 + 1, 0, none⟩), .pointer (some ⟨w.heap.size, 0, none⟩)], Value.func (.func 94) #[] #[.pointer (some ⟨w.heap.size + 1 + 1, 0, none⟩), .pointer (some ⟨w.heap.size, 0, none⟩)]] 1 (0, 0))).trans ((a1.mono (B' := w.heap.size) (by omega)).wide (fun x hx hn hm => by simp at hm hn; omega)) (Nat.le_refl _)
      have hN1 := a1.keep (keep_alloc nW (.cells #[Value.func (.func 94) #[] #[.pointer (some ⟨w.heap.size + 1 + 1, 0, none⟩), .pointer (some ⟨w.heap.size, 0, none⟩)], Value.func (.func 94) #[] #[.pointer (some ⟨w.heap.size + 1 + 1, 0, none⟩), .pointer (some ⟨w.heap.size, 0, none⟩)]] 1 (0, 0))) (by omega) (by simp; omega)
      cases ht : (Ps.opn I J nx fun A n1 => Ps.brackets I (Ps.exprOf I A) .part [.part] (Ps.bare 5 7) n1) with
      | err c0 a0 =>
        rw [ht] at hres
        obtain rfl : r = _ := hres
        exact ⟨rfl, Post.fail (by unfold Ps.form; simp only [HSEE.out, q0, q1, if_true, Bool.false_eq_true, if_false]; exact ht) A1⟩
      | ok e1 n1 =>
        rw [ht] at hres
        obtain ⟨le1, h1, _, rfl, y, rfl, he1⟩ := hres
        have HT : Hid (Ps.form I J nx = .ok e1 n1) := by
          show Ps.form I J nx = _
          unfold Ps.form; simp only [HSEE.out, q0, q1, if_true, Bool.false_eq_true, if_false]
          exact ht
        clear ht
        have fa := fun o => free_of hN1 o
        have ca0 := cell_of hN1 0
        have ca1 := cell_of hN1 1
        have ca2 := cell_of hN1 2
        have ca3 := cell_of hN1 3
        have ca4 := cell_of hN1 4
        have ca5 := cell_of hN1 5
        simp at ca0 ca1 ca2 ca3 ca4 ca5
        have he2 := he1.wide (ok' := fun i => w.heap.size + 1 < i) (fun i hi hl => by omega)
        go_wp2
        refine bodyPost_ret (v := .agg #[.int .i64 y.op, .int .i64 y.k, .int .i64 y.n, .string y.name, .slice y.aS y.nS y.cS, .slice y.aL y.nL y.cL]) (by simp [results, Tryd.results92, go_sem, ca0, ca1, ca2, ca3, ca4, ca5]) rfl ?_
        exact Post.good HT.out (A1.put6 (k := w.heap.size + 1) (by omega) y) le1 (h1.put6 (k := w.heap.size + 1) (by omega) (by omega) y) ⟨y, rfl, (he2.put6 (k := w.heap.size + 1) (by simp) y).wide (fun i hi _ => by omega)⟩
    | false =>
      cases q2 : (tx == [109, 97, 112]) with
      | true =>
        have hlt : nx < I.L.length := sees_lt (s := [109, 97, 112]) (by rw [HSEE.out]; exact q2) (by simp)
        have hQ : (W.alloc (.cells #[Value.func (.func 96) #[] #[.pointer (some ⟨w.heap.size, 0, none⟩), .pointer (some ⟨w.heap.size + 1 + 1, 0, none⟩)], Value.func (.func 98) #[] #[.pointer (some ⟨w.heap.size + 1 + 1 + 1, 0, none⟩), .pointer (some ⟨w.heap.size, 0, none⟩)]] 1 (0, 0))).heap[w.heap.size + 1 + 1 + 1 + 1]? = some (.cells ((.oper :: [.oneOrTwo]).map (fvOf (w.heap.size + 1 + 1) (w.heap.size) (w.heap.size + 1 + 1 + 1))).toArray 1 (0, 0)) := by
          have q := heap_new W (.cells #[Value.func (.func 96) #[] #[.pointer (some ⟨w.heap.size, 0, none⟩), .pointer (some ⟨w.heap.size + 1 + 1, 0, none⟩)], Value.func (.func 98) #[] #[.pointer (some ⟨w.heap.size + 1 + 1 + 1, 0, none⟩), .pointer (some ⟨w.heap.size, 0, none⟩)]] 1 (0, 0))
          rw [zW] at q
          exact q
        have zQ : (W.alloc (.cells #[Value.func (.func 96) #[] #[.pointer (some ⟨w.heap.size, 0, none⟩), .pointer (some ⟨w.heap.size + 1 + 1, 0, none⟩)], Value.func (.func 98) #[] #[.pointer (some ⟨w.heap.size + 1 + 1 + 1, 0, none⟩), .pointer (some ⟨w.heap.size, 0, none⟩)]] 1 (0, 0))).heap.size = w.heap.size + 1 + 1 + 1 + 1 + 1 := by simp [zW]
        go_wp2_with fail
        refine (form5_any (p := .oper) (ps := [.oneOrTwo]) (o := 7) (k := 0) (pb := w.heap.size + 1 + 1 + 1) (qb := w.heap.size + 1 + 1 + 1 + 1) (tq := 1) HJ hlt (hRW.alloc _) ((hG.far AW).alloc _) (by omega) (by omega) (by omega) (by omega) (by omega) (by omega) (by omega) (by omega) (by omega) (keep_alloc rW _) (keep_alloc pW _) hQ (keep_alloc eW _) (by decide)).mono ?_
        rintro r w1 ⟨a1, hres⟩
        have z1 := a1.size
        have A1 : Aside [b] w.heap.size w w1 := (AW.alloc (by omega) (.cells #[Value.func (.func 96) #[] #[.pointer (some ⟨w.heap.size, 0, none⟩), .pointer (some ⟨w.heap.size + 1 + 1, 0, none⟩)], Value.func (.func 98) #[] #[.pointer (some ⟨w.heap.size + 1 + 1 + 1, 0, none⟩), .pointer (some ⟨w.heap.size, 0, none⟩)]] 1 (0, 0))).trans ((a1.mono (B' := w.heap.size) (by omega)).wide (fun x hx hn hm => by simp at hm hn; omega)) (Nat.le_refl _)
        have hN1 := a1.keep (keep_alloc nW (.cells #[Value.func (.func 96) #[] #[.pointer (some ⟨w.heap.size, 0, none⟩), .pointer (some ⟨w.heap.size + 1 + 1, 0, none⟩)], Value.func (.func 98) #[] #[.pointer (some ⟨w.heap.size + 1 + 1 + 1, 0, none⟩), .pointer (some ⟨w.heap.size, 0, none⟩)]] 1 (0, 0))) (by omega) (by simp; omega)
        cases ht : (Ps.opn I J nx fun A n1 => Ps.brackets I (Ps.exprOf I A) .oper [.oneOrTwo] (Ps.bare 7 0) n1) with
        | err c0 a0 =>
          rw [ht] at hres
          obtain rfl : r = _ := hres
          exact ⟨rfl, Post.fail (by unfold Ps.form; simp only [HSEE.out, q0, q1, q2, if_true, Bool.false_eq_true, if_false]; exact ht) A1⟩
        | ok e1 n1 =>
          rw [ht] at hres
          obtain ⟨le1, h1, _, rfl, y, rfl, he1⟩ := hres
          have HT : Hid (Ps.form I J nx = .ok e1 n1) := by
            show Ps.form I J nx = _
            unfold Ps.form; simp only [HSEE.out, q0, q1, q2, if_true, Bool.false_eq_true, if_false]
            exact ht
          clear ht
          have fa := fun o => free_of hN1 o
          have ca0 := cell_of hN1 0
          have ca1 := cell_of hN1 1
          have ca2 := cell_of hN1 2
          have ca3 := cell_of hN1 3
          have ca4 := cell_of hN1 4
          have ca5 := cell_of hN1 5
          simp at ca0 ca1 ca2 ca3 ca4 ca5
          have he2 := he1.wide (ok' := fun i => w.heap.size + 1 < i) (fun i hi hl => by omega)
          go_wp2
          refine bodyPost_ret (v := .agg #[.int .i64 y.op, .int .i64 y.k, .int .i64 y.n, .string y.name, .slice y.aS y.nS y.cS, .slice y.aL y.nL y.cL]) (by simp [results, Tryd.results92, go_sem, ca0, ca1, ca2, ca3, ca4, ca5]) rfl ?_
          exact Post.good HT.out (A1.put6 (k := w.heap.size + 1) (by omega) y) le1 (h1.put6 (k := w.heap.size + 1) (by omega) (by omega) y) ⟨y, rfl, (he2.put6 (k := w.heap.size + 1) (by simp) y).wide (fun i hi _ => by omega)⟩
      | false =>
        cases q3 : (tx == [102, 111, 108, 100]) with
        | true =>
          have hlt : nx < I.L.length := sees_lt (s := [102, 111, 108, 100]) (by rw [HSEE.out]; exact q3) (by simp)
          have hQ : (W.alloc (.cells #[Value.func (.func 96) #[] #[.pointer (some ⟨w.heap.size, 0, none⟩), .pointer (some ⟨w.heap.size + 1 + 1, 0, none⟩)], Value.func (.func 94) #[] #[.pointer (some ⟨w.heap.size + 1 + 1, 0, none⟩), .pointer (some ⟨w.heap.size, 0, none⟩)], Value.func (.func 94) #[] #[.pointer (some ⟨w.heap.size + 1 + 1, 0, none⟩), .pointer (some ⟨w.heap.size, 0, none⟩)]] 1 (0, 0))).heap[w.heap.size + 1 + 1 + 1 + 1]? = some (.cells ((.oper :: [.part, .part]).map (fvOf (w.heap.size + 1 + 1) (w.heap.size) (w.heap.size + 1 + 1 + 1))).toArray 1 (0, 0)) := by
            have q := heap_new W (.cells #[Value.func (.func 96) #[] #[.pointer (some ⟨w.heap.size, 0, none⟩), .pointer (some ⟨w.heap.size + 1 + 1, 0, none⟩)], Value.func (.func 94) #[] #[.pointer (some ⟨w.heap.size + 1 + 1, 0, none⟩), .pointer (some ⟨w.heap.size, 0, none⟩)], Value.func (.func 94) #[] #[.pointer (some ⟨w.heap.size + 1 + 1, 0, none⟩), .pointer (some ⟨w.heap.size, 0, none⟩)]] 1 (0, 0))
            rw [zW] at q
            exact q
          have zQ : (W.alloc (.cells #[Value.func (.func 96) #[] #[.pointer (some ⟨w.heap.size, 0, none⟩), .pointer (some ⟨w.heap.size + 1 + 1, 0, none⟩)], Value.func (.func 94) #[] #[.pointer (some ⟨w.heap.size + 1 + 1, 0, none⟩), .pointer (some ⟨w.heap.size, 0, none⟩)], Value.func (.func 94) #[] #[.pointer (some ⟨w.heap.size + 1 + 1, 0, none⟩), .pointer (some ⟨w.heap.size, 0, none⟩)]] 1 (0, 0))).heap.size = w.heap.size + 1 + 1 + 1 + 1 + 1 := by simp [zW]
          go_wp2_with fail
          refine (form5_any (p := .oper) (ps := [.part, .part]) (o := 8) (k := 0) (pb := w.heap.size + 1 + 1 + 1) (qb := w.heap.size + 1 + 1 + 1 + 1) (tq := 1) HJ hlt (hRW.alloc _) ((hG.far AW).alloc _) (by omega) (by omega) (by omega) (by omega) (by omega) (by omega) (by omega) (by omega) (by omega) (keep_alloc rW _) (keep_alloc pW _) hQ (keep_alloc eW _) (by decide)).mono ?_
          rintro r w1 ⟨a1, hres⟩
          have z1 := a1.size
          have A1 : Aside [b] w.heap.size w w1 := (AW.alloc (by omega) (.cells #[Value.func (.func 96) #[] #[.pointer (some ⟨w.heap.size, 0, none⟩), .pointer (some ⟨w.heap.size + 1 + 1, 0, none⟩)], Value.func (.func 94) #[] #[.pointer (some ⟨w.heap.size + 1 + 1, 0, none⟩), .pointer (some ⟨w.heap.size, 0, none⟩)], Value.func (.func 94) #[] #[.pointer (some ⟨w.heap.size + 1 + 1, 0, none⟩), .pointer (some ⟨w.heap.size, 0, none⟩)]] 1 (0, 0))).trans ((a1.mono (B' := w.heap.size) (by omega)).wide (fun x hx hn hm => by simp at hm hn; omega)) (Nat.le_refl _)
          have hN1 := a1.keep (keep_alloc nW (.cells #[Value.func (.func 96) #[] #[.pointer (some ⟨w.heap.size, 0, none⟩), .pointer (some ⟨w.heap.size + 1 + 1, 0, none⟩)], Value.func (.func 94) #[] #[.pointer (some ⟨w.heap.size + 1 + 1, 0, none⟩), .pointer (some ⟨w.heap.size, 0, none⟩)], Value.func (.func 94) #[] #[.pointer (some ⟨w.heap.size + 1 + 1, 0, none⟩), .pointer (some ⟨w.heap.size, 0, none⟩)]] 1 (0, 0))) (by omega) (by simp; omega)
          cases ht : (Ps.opn I J nx fun A n1 => Ps.brackets I (Ps.exprOf I A) .oper [.part, .part] (Ps.bare 8 0) n1) with
          | err c0 a0 =>
            rw [ht] at hres
            obtain rfl : r = _ := hres
            exact ⟨rfl, Post.fail (by unfold Ps.form; simp only [HSEE.out, q0, q1, q2, q3, if_true, Bool.false_eq_true, if_false]; exact ht) A1⟩
          | ok e1 n1 =>
            rw [ht] at hres
            obtain ⟨le1, h1, _, rfl, y, rfl, he1⟩ := hres
            have HT : Hid (Ps.form I J nx = .ok e1 n1) := by
              show Ps.form I J nx = _
              unfold Ps.form; simp only [HSEE.out, q0, q1, q2, q3, if_true, Bool.false_eq_true, if_false]
              exact ht
            clear ht
            have fa := fun o => free_of hN1 o
            have ca0 := cell_of hN1 0
            have ca1 := cell_of hN1 1
            have ca2 := cell_of hN1 2
            have ca3 := cell_of hN1 3
            have ca4 := cell_of hN1 4
            have ca5 := cell_of hN1 5
            simp at ca0 ca1 ca2 ca3 ca4 ca5
            have he2 := he1.wide (ok' := fun i => w.heap.size + 1 < i) (fun i hi hl => by omega)
            go_wp2
            refine bodyPost_ret (v := .agg #[.int .i64 y.op, .int .i64 y.k, .int .i64 y.n, .string y.name, .slice y.aS y.nS y.cS, .slice y.aL y.nL y.cL]) (by simp [results, Tryd.results92, go_sem, ca0, ca1, ca2, ca3, ca4, ca5]) rfl ?_
            exact Post.good HT.out (A1.put6 (k := w.heap.size + 1) (by omega) y) le1 (h1.put6 (k := w.heap.size + 1) (by omega) (by omega) y) ⟨y, rfl, (he2.put6 (k := w.heap.size + 1) (by simp) y).wide (fun i hi _ => by omega)⟩
        | false =>
          cases q4 : (tx == [115, 99, 97, 110]) with
          | true =>
            have hlt : nx < I.L.length := sees_lt (s := [115, 99, 97, 110]) (by rw [HSEE.out]; exact q4) (by simp)
            have hQ : (W.alloc (.cells #[Value.func (.func 96) #[] #[.pointer (some ⟨w.heap.size, 0, none⟩), .pointer (some ⟨w.heap.size + 1 + 1, 0, none⟩)], Value.func (.func 94) #[] #[.pointer (some ⟨w.heap.size + 1 + 1, 0, none⟩), .pointer (some ⟨w.heap.size, 0, none⟩)], Value.func (.func 94) #[] #[.pointer (some ⟨w.heap.size + 1 + 1, 0, none⟩), .pointer (some ⟨w.heap.size, 0, none⟩)]] 1 (0, 0))).heap[w.heap.size + 1 + 1 + 1 + 1]? = some (.cells ((.oper :: [.part, .part]).map (fvOf (w.heap.size + 1 + 1) (w.heap.size) (w.heap.size + 1 + 1 + 1))).toArray 1 (0, 0)) := by
              have q := heap_new W (.cells #[Value.func (.func 96) #[] #[.pointer (some ⟨w.heap.size, 0, none⟩), .pointer (some ⟨w.heap.size + 1 + 1, 0, none⟩)], Value.func (.func 94) #[] #[.pointer (some ⟨w.heap.size + 1 + 1, 0, none⟩), .pointer (some ⟨w.heap.size, 0, none⟩)], Value.func (.func 94) #[] #[.pointer (some ⟨w.heap.size + 1 + 1, 0, none⟩), .pointer (some ⟨w.heap.size, 0, none⟩)]] 1 (0, 0))
              rw [zW] at q
              exact q
            have zQ : (W.alloc (.cells #[Value.func (.func 96) #[] #[.pointer (some ⟨w.heap.size, 0, none⟩), .pointer (some ⟨w.heap.size + 1 + 1, 0, none⟩)], Value.func (.func 94) #[] #[.pointer (some ⟨w.heap.size + 1 + 1, 0, none⟩), .pointer (some ⟨w.heap.size, 0, none⟩)], Value.func (.func 94) #[] #[.pointer (some ⟨w.heap.size + 1 + 1, 0, none⟩), .pointer (some ⟨w.heap.size, 0, none⟩)]] 1 (0, 0))).heap.size = w.heap.size + 1 + 1 + 1 + 1 + 1 := by simp [zW]
            go_wp2_with fail
            refine (form5_any (p := .oper) (ps := [.part, .part]) (o := 9) (k := 0) (pb := w.heap.size + 1 + 1 + 1) (qb := w.heap.size + 1 + 1 + 1 + 1) (tq := 1) HJ hlt (hRW.alloc _) ((hG.far AW).alloc _) (by omega) (by omega) (by omega) (by omega) (by omega) (by omega) (by omega) (by omega) (by omega) (keep_alloc rW _) (keep_alloc pW _) hQ (keep_alloc eW _) (by decide)).mono ?_
            rintro r w1 ⟨a1, hres⟩
            have z1 := a1.size
            have A1 : Aside [b] w.heap.size w w1 := (AW.alloc (by omega) (.cells #[Value.func (.func 96) #[] #[.pointer (some ⟨w.heap.size, 0, none⟩), .pointer (some ⟨w.heap.size + 1 + 1, 0, none⟩)], Value.func (.func 94) #[] #[.pointer (some ⟨w.heap.size + 1 + 1, 0, none⟩), .pointer (some ⟨w.heap.size, 0, none⟩)], Value.func (.func 94) #[] #[.pointer (some ⟨w.heap.size + 1 + 1, 0, none⟩), .pointer (some ⟨w.heap.size, 0, none⟩)]] 1 (0, 0))).trans ((a1.mono (B' := w.heap.size) (by omega)).wide (fun x hx hn hm => by simp at hm hn; omega)) (Nat.le_refl _)
            have hN1 := a1.keep (keep_alloc nW (.cells #[Value.func (.func 96) #[] #[.pointer (some ⟨w.heap.size, 0, none⟩), .pointer (some ⟨w.heap.size + 1 + 1, 0, none⟩)], Value.func (.func 94) #[] #[.pointer (some ⟨w.heap.size + 1 + 1, 0, none⟩), .pointer (some ⟨w.heap.size, 0, none⟩)], Value.func (.func 94) #[] #[.pointer (some ⟨w.heap.size + 1 + 1, 0, none⟩), .pointer (some ⟨w.heap.size, 0, none⟩)]] 1 (0, 0))) (by omega) (by simp; omega)
            cases ht : (Ps.opn I J nx fun A n1 => Ps.brackets I (Ps.exprOf I A) .oper [.part, .part] (Ps.bare 9 0) n1) with
            | err c0 a0 =>
              rw [ht] at hres
              obtain rfl : r = _ := hres
              exact ⟨rfl, Post.fail (by unfold Ps.form; simp only [HSEE.out, q0, q1, q2, q3, q4, if_true, Bool.false_eq_true, if_false]; exact ht) A1⟩
            | ok e1 n1 =>
              rw [ht] at hres
              obtain ⟨le1, h1, _, rfl, y, rfl, he1⟩ := hres
              have HT : Hid (Ps.form I J nx = .ok e1 n1) := by
                show Ps.form I J nx = _
                unfold Ps.form; simp only [HSEE.out, q0, q1, q2, q3, q4, if_true, Bool.false_eq_true, if_false]
                exact ht
              clear ht
              have fa := fun o => free_of hN1 o
              have ca0 := cell_of hN1 0
              have ca1 := cell_of hN1 1
              have ca2 := cell_of hN1 2
              have ca3 := cell_of hN1 3
              have ca4 := cell_of hN1 4
              have ca5 := cell_of hN1 5
              simp at ca0 ca1 ca2 ca3 ca4 ca5
              have he2 := he1.wide (ok' := fun i => w.heap.size + 1 < i) (fun i hi hl => by omega)
              go_wp2
              refine bodyPost_ret (v := .agg #[.int .i64 y.op, .int .i64 y.k, .int .i64 y.n, .string y.name, .slice y.aS y.nS y.cS, .slice y.aL y.nL y.cL]) (by simp [results, Tryd.results92, go_sem, ca0, ca1, ca2, ca3, ca4, ca5]) rfl ?_
              exact Post.good HT.out (A1.put6 (k := w.heap.size + 1) (by omega) y) le1 (h1.put6 (k := w.heap.size + 1) (by omega) (by omega) y) ⟨y, rfl, (he2.put6 (k := w.heap.size + 1) (by simp) y).wide (fun i hi _ => by omega)⟩
          | false =>
            cases q5 : (tx == [102, 105, 108, 108]) with
            | true =>
              have hlt : nx < I.L.length := sees_lt (s := [102, 105, 108, 108]) (by rw [HSEE.out]; exact q5) (by simp)
              have hQ : (W.alloc (.cells #[Value.func (.func 94) #[] #[.pointer (some ⟨w.heap.size + 1 + 1, 0, none⟩), .pointer (some ⟨w.heap.size, 0, none⟩)], Value.func (.func 95) #[] #[.pointer (some ⟨w.heap.size + 1 + 1, 0, none⟩), .pointer (some ⟨w.heap.size, 0, none⟩)]] 1 (0, 0))).heap[w.heap.size + 1 + 1 + 1 + 1]? = some (.cells ((.part :: [.size]).map (fvOf (w.heap.size + 1 + 1) (w.heap.size) (w.heap.size + 1 + 1 + 1))).toArray 1 (0, 0)) := by
                have q := heap_new W (.cells #[Value.func (.func 94) #[] #[.pointer (some ⟨w.heap.size + 1 + 1, 0, none⟩), .pointer (some ⟨w.heap.size, 0, none⟩)], Value.func (.func 95) #[] #[.pointer (some ⟨w.heap.size + 1 + 1, 0, none⟩), .pointer (some ⟨w.heap.size, 0, none⟩)]] 1 (0, 0))
                rw [zW] at q
                exact q
              have zQ : (W.alloc (.cells #[Value.func (.func 94) #[] #[.pointer (some ⟨w.heap.size + 1 + 1, 0, none⟩), .pointer (some ⟨w.heap.size, 0, none⟩)], Value.func (.func 95) #[] #[.pointer (some ⟨w.heap.size + 1 + 1, 0, none⟩), .pointer (some ⟨w.heap.size, 0, none⟩)]] 1 (0, 0))).heap.size = w.heap.size + 1 + 1 + 1 + 1 + 1 := by simp [zW]
              go_wp2_with fail
              refine (form5_any (p := .part) (ps := [.size]) (o := 10) (k := 0) (pb := w.heap.size + 1 + 1 + 1) (qb := w.heap.size + 1 + 1 + 1 + 1) (tq := 1) HJ hlt (hRW.alloc _) ((hG.far AW).alloc _) (by omega) (by omega) (by omega) (by omega) (by omega) (by omega) (by omega) (by omega) (by omega) (keep_alloc rW _) (keep_alloc pW _) hQ (keep_alloc eW _) (by decide)).mono ?_
              rintro r w1 ⟨a1, hres⟩
              have z1 := a1.size
              have A1 : Aside [b] w.heap.size w w1 := (AW.alloc (by omega) (.cells #[Value.func (.func 94) #[] #[.pointer (some ⟨w.heap.size + 1 + 1, 0, none⟩), .pointer (some ⟨w.heap.size, 0, none⟩)], Value.func (.func 95) #[] #[.pointer (some ⟨w.heap.size + 1 + 1, 0, none⟩), .pointer (some ⟨w.heap.size, 0, none⟩)]] 1 (0, 0))).trans ((a1.mono (B' := w.heap.size) (by omega)).wide (fun x hx hn hm => by simp at hm hn; omega)) (Nat.le_refl _)
              have hN1 := a1.keep (keep_alloc nW (.cells #[Value.func (.func 94) #[] #[.pointer (some ⟨w.heap.size + 1 + 1, 0, none⟩), .pointer (some ⟨w.heap.size, 0, none⟩)], Value.func (.func 95) #[] #[.pointer (some ⟨w.heap.size + 1 + 1, 0, none⟩), .pointer (some ⟨w.heap.size, 0, none⟩)]] 1 (0, 0))) (by omega) (by simp; omega)
              cases ht : (Ps.opn I J nx fun A n1 => Ps.brackets I (Ps.exprOf I A) .part [.size] (Ps.bare 10 0) n1) with
              | err c0 a0 =>
                rw [ht] at hres
                obtain rfl : r = _ := hres
                exact ⟨rfl, Post.fail (by unfold Ps.form; simp only [HSEE.out, q0, q1, q2, q3, q4, q5, if_true, Bool.false_eq_true, if_false]; exact ht) A1⟩
              | ok e1 n1 =>
                rw [ht] at hres
                obtain ⟨le1, h1, _, rfl, y, rfl, he1⟩ := hres
                have HT : Hid (Ps.form I J nx = .ok e1 n1) := by
                  show Ps.form I J nx = _
                  unfold Ps.form; simp only [HSEE.out, q0, q1, q2, q3, q4, q5, if_true, Bool.false_eq_true, if_false]
                  exact ht
                clear ht
                have fa := fun o => free_of hN1 o
                have ca0 := cell_of hN1 0
                have ca1 := cell_of hN1 1
                have ca2 := cell_of hN1 2
                have ca3 := cell_of hN1 3
                have ca4 := cell_of hN1 4
                have ca5 := cell_of hN1 5
                simp at ca0 ca1 ca2 ca3 ca4 ca5
                have he2 := he1.wide (ok' := fun i => w.heap.size + 1 < i) (fun i hi hl => by omega)
                go_wp2
                refine bodyPost_ret (v := .agg #[.int .i64 y.op, .int .i64 y.k, .int .i64 y.n, .string y.name, .slice y.aS y.nS y.cS, .slice y.aL y.nL y.cL]) (by simp [results, Tryd.results92, go_sem, ca0, ca1, ca2, ca3, ca4, ca5]) rfl ?_
                exact Post.good HT.out (A1.put6 (k := w.heap.size + 1) (by omega) y) le1 (h1.put6 (k := w.heap.size + 1) (by omega) (by omega) y) ⟨y, rfl, (he2.put6 (k := w.heap.size + 1) (by simp) y).wide (fun i hi _ => by omega)⟩
            | false =>
              cases q6 : (tx == [119, 105, 116, 104]) with
              | true =>
                have hlt : nx < I.L.length := sees_lt (s := [119, 105, 116, 104]) (by rw [HSEE.out]; exact q6) (by simp)
                have hQ : (W.alloc (.cells #[Value.func (.func 94) #[] #[.pointer (some ⟨w.heap.size + 1 + 1, 0, none⟩), .pointer (some ⟨w.heap.size, 0, none⟩)], Value.func (.func 94) #[] #[.pointer (some ⟨w.heap.size + 1 + 1, 0, none⟩), .pointer (some ⟨w.heap.size, 0, none⟩)], Value.func (.func 94) #[] #[.pointer (some ⟨w.heap.size + 1 + 1, 0, none⟩), .pointer (some ⟨w.heap.size, 0, none⟩)]] 1 (0, 0))).heap[w.heap.size + 1 + 1 + 1 + 1]? = some (.cells ((.part :: [.part, .part]).map (fvOf (w.heap.size + 1 + 1) (w.heap.size) (w.heap.size + 1 + 1 + 1))).toArray 1 (0, 0)) := by
                  have q := heap_new W (.cells #[Value.func (.func 94) #[] #[.pointer (some ⟨w.heap.size + 1 + 1, 0, none⟩), .pointer (some ⟨w.heap.size, 0, none⟩)], Value.func (.func 94) #[] #[.pointer (some ⟨w.heap.size + 1 + 1, 0, none⟩), .pointer (some ⟨w.heap.size, 0, none⟩)], Value.func (.func 94) #[] #[.pointer (some ⟨w.heap.size + 1 + 1, 0, none⟩), .pointer (some ⟨w.heap.size, 0, none⟩)]] 1 (0, 0))
                  rw [zW] at q
                  exact q
                have zQ : (W.alloc (.cells #[Value.func (.func 94) #[] #[.pointer (some ⟨w.heap.size + 1 + 1, 0, none⟩), .pointer (some ⟨w.heap.size, 0, none⟩)], Value.func (.func 94) #[] #[.pointer (some ⟨w.heap.size + 1 + 1, 0, none⟩), .pointer (some ⟨w.heap.size, 0, none⟩)], Value.func (.func 94) #[] #[.pointer (some ⟨w.heap.size + 1 + 1, 0, none⟩), .pointer (some ⟨w.heap.size, 0, none⟩)]] 1 (0, 0))).heap.size = w.heap.size + 1 + 1 + 1 + 1 + 1 := by simp [zW]
                go_wp2_with fail
                refine (form5_any (p := .part) (ps := [.part, .part]) (o := 12) (k := 0) (pb := w.heap.size + 1 + 1 + 1) (qb := w.heap.size + 1 + 1 + 1 + 1) (tq := 1) HJ hlt (hRW.alloc _) ((hG.far AW).alloc _) (by omega) (by omega) (by omega) (by omega) (by omega) (by omega) (by omega) (by omega) (by omega) (keep_alloc rW _) (keep_alloc pW _) hQ (keep_alloc eW _) (by decide)).mono ?_
                rintro r w1 ⟨a1, hres⟩
                have z1 := a1.size
                have A1 : Aside [b] w.heap.size w w1 := (AW.alloc (by omega) (.cells #[Value.func (.func 94) #[] #[.pointer (some ⟨w.heap.size + 1 + 1, 0, none⟩), .pointer (some ⟨w.heap.size, 0, none⟩)], Value.func (.func 94) #[] #[.pointer (some ⟨w.heap.size + 1 + 1, 0, none⟩), .pointer (some ⟨w.heap.size, 0, none⟩)], Value.func (.func 94) #[] #[.pointer (some ⟨w.heap.size + 1 + 1, 0, none⟩), .pointer (some ⟨w.heap.size, 0, none⟩)]] 1 (0, 0))).trans ((a1.mono (B' := w.heap.size) (by omega)).wide (fun x hx hn hm => by simp at hm hn; omega)) (Nat.le_refl _)
                have hN1 := a1.keep (keep_alloc nW (.cells #[Value.func (.func 94) #[] #[.pointer (some ⟨w.heap.size + 1 + 1, 0, none⟩), .pointer (some ⟨w.heap.size, 0, none⟩)], Value.func (.func 94) #[] #[.pointer (some ⟨w.heap.size + 1 + 1, 0, none⟩), .pointer (some ⟨w.heap.size, 0, none⟩)], Value.func (.func 94) #[] #[.pointer (some ⟨w.heap.size + 1 + 1, 0, none⟩), .pointer (some ⟨w.heap.size, 0, none⟩)]] 1 (0, 0))) (by omega) (by simp; omega)
                cases ht : (Ps.opn I J nx fun A n1 => Ps.brackets I (Ps.exprOf I A) .part [.part, .part] (Ps.bare 12 0) n1) with
                | err c0 a0 =>
                  rw [ht] at hres
                  obtain rfl : r = _ := hres
                  exact ⟨rfl, Post.fail (by unfold Ps.form; simp only [HSEE.out, q0, q1, q2, q3, q4, q5, q6, if_true, Bool.false_eq_true, if_false]; exact ht) A1⟩
                | ok e1 n1 =>
                  rw [ht] at hres
                  obtain ⟨le1, h1, _, rfl, y, rfl, he1⟩ := hres
                  have HT : Hid (Ps.form I J nx = .ok e1 n1) := by
                    show Ps.form I J nx = _
                    unfold Ps.form; simp only [HSEE.out, q0, q1, q2, q3, q4, q5, q6, if_true, Bool.false_eq_true, if_false]
                    exact ht
                  clear ht
                  have fa := fun o => free_of hN1 o
                  have ca0 := cell_of hN1 0
                  have ca1 := cell_of hN1 1
                  have ca2 := cell_of hN1 2
                  have ca3 := cell_of hN1 3
                  have ca4 := cell_of hN1 4
                  have ca5 := cell_of hN1 5
                  simp at ca0 ca1 ca2 ca3 ca4 ca5
                  have he2 := he1.wide (ok' := fun i => w.heap.size + 1 < i) (fun i hi hl => by omega)
                  go_wp2
                  refine bodyPost_ret (v := .agg #[.int .i64 y.op, .int .i64 y.k, .int .i64 y.n, .string y.name, .slice y.aS y.nS y.cS, .slice y.aL y.nL y.cL]) (by simp [results, Tryd.results92, go_sem, ca0, ca1, ca2, ca3, ca4, ca5]) rfl ?_
                  exact Post.good HT.out (A1.put6 (k := w.heap.size + 1) (by omega) y) le1 (h1.put6 (k := w.heap.size + 1) (by omega) (by omega) y) ⟨y, rfl, (he2.put6 (k := w.heap.size + 1) (by simp) y).wide (fun i hi _ => by omega)⟩
              | false =>
                cases q7 : (tx == [115, 108, 105, 99, 101]) with
                | true =>
                  have hlt : nx < I.L.length := sees_lt (s := [115, 108, 105, 99, 101]) (by rw [HSEE.out]; exact q7) (by simp)
                  have hQ : (W.alloc (.cells #[Value.func (.func 94) #[] #[.pointer (some ⟨w.heap.size + 1 + 1, 0, none⟩), .pointer (some ⟨w.heap.size, 0, none⟩)], Value.func (.func 95) #[] #[.pointer (some ⟨w.heap.size + 1 + 1, 0, none⟩), .pointer (some ⟨w.heap.size, 0, none⟩)], Value.func (.func 95) #[] #[.pointer (some ⟨w.heap.size + 1 + 1, 0, none⟩), .pointer (some ⟨w.heap.size, 0, none⟩)]] 1 (0, 0))).heap[w.heap.size + 1 + 1 + 1 + 1]? = some (.cells ((.part :: [.size, .size]).map (fvOf (w.heap.size + 1 + 1) (w.heap.size) (w.heap.size + 1 + 1 + 1))).toArray 1 (0, 0)) := by
                    have q := heap_new W (.cells #[Value.func (.func 94) #[] #[.pointer (some ⟨w.heap.size + 1 + 1, 0, none⟩), .pointer (some ⟨w.heap.size, 0, none⟩)], Value.func (.func 95) #[] #[.pointer (some ⟨w.heap.size + 1 + 1, 0, none⟩), .pointer (some ⟨w.heap.size, 0, none⟩)], Value.func (.func 95) #[] #[.pointer (some ⟨w.heap.size + 1 + 1, 0, none⟩), .pointer (some ⟨w.heap.size, 0, none⟩)]] 1 (0, 0))
                    rw [zW] at q
                    exact q
                  have zQ : (W.alloc (.cells #[Value.func (.func 94) #[] #[.pointer (some ⟨w.heap.size + 1 + 1, 0, none⟩), .pointer (some ⟨w.heap.size, 0, none⟩)], Value.func (.func 95) #[] #[.pointer (some ⟨w.heap.size + 1 + 1, 0, none⟩), .pointer (some ⟨w.heap.size, 0, none⟩)], Value.func (.func 95) #[] #[.pointer (some ⟨w.heap.size + 1 + 1, 0, none⟩), .pointer (some ⟨w.heap.size, 0, none⟩)]] 1 (0, 0))).heap.size = w.heap.size + 1 + 1 + 1 + 1 + 1 := by simp [zW]
                  go_wp2_with fail
                  refine (form5_any (p := .part) (ps := [.size, .size]) (o := 13) (k := 0) (pb := w.heap.size + 1 + 1 + 1) (qb := w.heap.size + 1 + 1 + 1 + 1) (tq := 1) HJ hlt (hRW.alloc _) ((hG.far AW).alloc _) (by omega) (by omega) (by omega) (by omega) (by omega) (by omega) (by omega) (by omega) (by omega) (keep_alloc rW _) (keep_alloc pW _) hQ (keep_alloc eW _) (by decide)).mono ?_
                  rintro r w1 ⟨a1, hres⟩
                  have z1 := a1.size
                  have A1 : Aside [b] w.heap.size w w1 := (AW.alloc (by omega) (.cells #[Value.func (.func 94) #[] #[.pointer (some ⟨w.heap.size + 1 + 1, 0, none⟩), .pointer (some ⟨w.heap.size, 0, none⟩)], Value.func (.func 95) #[] #[.pointer (some ⟨w.heap.size + 1 + 1, 0, none⟩), .pointer (some ⟨w.heap.size, 0, none⟩)], Value.func (.func 95) #[] #[.pointer (some ⟨w.heap.size + 1 + 1, 0, none⟩), .pointer (some ⟨w.heap.size, 0, none⟩)]] 1 (0, 0))).trans ((a1.mono (B' := w.heap.size) (by omega)).wide (fun x hx hn hm => by simp at hm hn; omega)) (Nat.le_refl _)
                  have hN1 := a1.keep (keep_alloc nW (.cells #[Value.func (.func 94) #[] #[.pointer (some ⟨w.heap.size + 1 + 1, 0, none⟩), .pointer (some ⟨w.heap.size, 0, none⟩)], Value.func (.func 95) #[] #[.pointer (some ⟨w.heap.size + 1 + 1, 0, none⟩), .pointer (some ⟨w.heap.size, 0, none⟩)], Value.func (.func 95) #[] #[.pointer (some ⟨w.heap.size + 1 + 1, 0, none⟩), .pointer (some ⟨w.heap.size, 0, none⟩)]] 1 (0, 0))) (by omega) (by simp; omega)
                  cases ht : (Ps.opn I J nx fun A n1 => Ps.brackets I (Ps.exprOf I A) .part [.size, .size] (Ps.bare 13 0) n1) with
                  | err c0 a0 =>
                    rw [ht] at hres
                    obtain rfl : r = _ := hres
                    exact ⟨rfl, Post.fail (by unfold Ps.form; simp only [HSEE.out, q0, q1, q2, q3, q4, q5, q6, q7, if_true, Bool.false_eq_true, if_false]; exact ht) A1⟩
                  | ok e1 n1 =>
                    rw [ht] at hres
                    obtain ⟨le1, h1, _, rfl, y, rfl, he1⟩ := hres
                    have HT : Hid (Ps.form I J nx = .ok e1 n1) := by
                      show Ps.form I J nx = _
                      unfold Ps.form; simp only [HSEE.out, q0, q1, q2, q3, q4, q5, q6, q7, if_true, Bool.false_eq_true, if_false]
                      exact ht
                    clear ht
                    have fa := fun o => free_of hN1 o
                    have ca0 := cell_of hN1 0
                    have ca1 := cell_of hN1 1
                    have ca2 := cell_of hN1 2
                    have ca3 := cell_of hN1 3
                    have ca4 := cell_of hN1 4
                    have ca5 := cell_of hN1 5
                    simp at ca0 ca1 ca2 ca3 ca4 ca5
                    have he2 := he1.wide (ok' := fun i => w.heap.size + 1 < i) (fun i hi hl => by omega)
                    go_wp2
                    refine bodyPost_ret (v := .agg #[.int .i64 y.op, .int .i64 y.k, .int .i64 y.n, .string y.name, .slice y.aS y.nS y.cS, .slice y.aL y.nL y.cL]) (by simp [results, Tryd.results92, go_sem, ca0, ca1, ca2, ca3, ca4, ca5]) rfl ?_
                    exact Post.good HT.out (A1.put6 (k := w.heap.size + 1) (by omega) y) le1 (h1.put6 (k := w.heap.size + 1) (by omega) (by omega) y) ⟨y, rfl, (he2.put6 (k := w.heap.size + 1) (by simp) y).wide (fun i hi _ => by omega)⟩
                | false =>
                  cases q8 : (tx == [99, 97, 116]) with
                  | true =>
                    have hlt : nx < I.L.length := sees_lt (s := [99, 97, 116]) (by rw [HSEE.out]; exact q8) (by simp)
                    have hQ : (W.alloc (.cells #[Value.func (.func 94) #[] #[.pointer (some ⟨w.heap.size + 1 + 1, 0, none⟩), .pointer (some ⟨w.heap.size, 0, none⟩)], Value.func (.func 94) #[] #[.pointer (some ⟨w.heap.size + 1 + 1, 0, none⟩), .pointer (some ⟨w.heap.size, 0, none⟩)]] 1 (0, 0))).heap[w.heap.size + 1 + 1 + 1 + 1]? = some (.cells ((.part :: [.part]).map (fvOf (w.heap.size + 1 + 1) (w.heap.size) (w.heap.size + 1 + 1 + 1))).toArray 1 (0, 0)) := by
                      have q := heap_new W (.cells #[Value.func (.func 94) #[] #[.pointer (some ⟨w.heap.size + 1 + 1, 0, none⟩), .pointer (some ⟨w.heap.size, 0, none⟩)], Value.func (.func 94) #[] #[.pointer (some ⟨w.heap.size + 1 + 1, 0, none⟩), .pointer (some ⟨w.heap.size, 0, none⟩)]] 1 (0, 0))
                      rw [zW] at q
                      exact q
                    have zQ : (W.alloc (.cells #[Value.func (.func 94) #[] #[.pointer (some ⟨w.heap.size + 1 + 1, 0, none⟩), .pointer (some ⟨w.heap.size, 0, none⟩)], Value.func (.func 94) #[] #[.pointer (some ⟨w.heap.size + 1 + 1, 0, none⟩), .pointer (some ⟨w.heap.size, 0, none⟩)]] 1 (0, 0))).heap.size = w.heap.size + 1 + 1 + 1 + 1 + 1 := by simp [zW]
                    go_wp2_with fail
                    refine (form5_any (p := .part) (ps := [.part]) (o := 14) (k := 0) (pb := w.heap.size + 1 + 1 + 1) (qb := w.heap.size + 1 + 1 + 1 + 1) (tq := 1) HJ hlt (hRW.alloc _) ((hG.far AW).alloc _) (by omega) (by omega) (by omega) (by omega) (by omega) (by omega) (by omega) (by omega) (by omega) (keep_alloc rW _) (keep_alloc pW _) hQ (keep_alloc eW _) (by decide)).mono ?_
                    rintro r w1 ⟨a1, hres⟩
                    have z1 := a1.size
                    have A1 : Aside [b] w.heap.size w w1 := (AW.alloc (by omega) (.cells #[Value.func (.func 94) #[] #[.pointer (some ⟨w.heap.size + 1 + 1, 0, none⟩), .pointer (some ⟨w.heap.size, 0, none⟩)], Value.func (.func 94) #[] #[.pointer (some ⟨w.heap.size + 1 + 1, 0, none⟩), .pointer (some ⟨w.heap.size, 0, none⟩)]] 1 (0, 0))).trans ((a1.mono (B' := w.heap.size) (by omega)).wide (fun x hx hn hm => by simp at hm hn; omega)) (Nat.le_refl _)
                    have hN1 := a1.keep (keep_alloc nW (.cells #[Value.func (.func 94) #[] #[.pointer (some ⟨w.heap.size + 1 + 1, 0, none⟩), .pointer (some ⟨w.heap.size, 0, none⟩)], Value.func (.func 94) #[] #[.pointer (some ⟨w.heap.size + 1 + 1, 0, none⟩), .pointer (some ⟨w.heap.size, 0, none⟩)]] 1 (0, 0))) (by omega) (by simp; omega)
                    cases ht : (Ps.opn I J nx fun A n1 => Ps.brackets I (Ps.exprOf I A) .part [.part] (Ps.bare 14 0) n1) with
                    | err c0 a0 =>
                      rw [ht] at hres
                      obtain rfl : r = _ := hres
                      exact ⟨rfl, Post.fail (by unfold Ps.form; simp only [HSEE.out, q0, q1, q2, q3, q4, q5, q6, q7, q8, if_true, Bool.false_eq_true, if_false]; exact ht) A1⟩
                    | ok e1 n1 =>
                      rw [ht] at hres
                      obtain ⟨le1, h1, _, rfl, y, rfl, he1⟩ := hres
                      have HT : Hid (Ps.form I J nx = .ok e1 n1) := by
                        show Ps.form I J nx = _
                        unfold Ps.form; simp only [HSEE.out, q0, q1, q2, q3, q4, q5, q6, q7, q8, if_true, Bool.false_eq_true, if_false]
                        exact ht
                      clear ht
                      have fa := fun o => free_of hN1 o
                      have ca0 := cell_of hN1 0
                      have ca1 := cell_of hN1 1
                      have ca2 := cell_of hN1 2
                      have ca3 := cell_of hN1 3
                      have ca4 := cell_of hN1 4
                      have ca5 := cell_of hN1 5
                      simp at ca0 ca1 ca2 ca3 ca4 ca5
                      have he2 := he1.wide (ok' := fun i => w.heap.size + 1 < i) (fun i hi hl => by omega)
                      go_wp2
                      refine bodyPost_ret (v := .agg #[.int .i64 y.op, .int .i64 y.k, .int .i64 y.n, .string y.name, .slice y.aS y.nS y.cS, .slice y.aL y.nL y.cL]) (by simp [results, Tryd.results92, go_sem, ca0, ca1, ca2, ca3, ca4, ca5]) rfl ?_
                      exact Post.good HT.out (A1.put6 (k := w.heap.size + 1) (by omega) y) le1 (h1.put6 (k := w.heap.size + 1) (by omega) (by omega) y) ⟨y, rfl, (he2.put6 (k := w.heap.size + 1) (by simp) y).wide (fun i hi _ => by omega)⟩
                  | false =>
                    cases q9 : (tx == [112, 114, 101]) with
                    | true =>
                      have hlt : nx < I.L.length := sees_lt (s := [112, 114, 101]) (by rw [HSEE.out]; exact q9) (by simp)
                      have hQ : (W.alloc (.cells #[Value.func (.func 94) #[] #[.pointer (some ⟨w.heap.size + 1 + 1, 0, none⟩), .pointer (some ⟨w.heap.size, 0, none⟩)], Value.func (.func 94) #[] #[.pointer (some ⟨w.heap.size + 1 + 1, 0, none⟩), .pointer (some ⟨w.heap.size, 0, none⟩)]] 1 (0, 0))).heap[w.heap.size + 1 + 1 + 1 + 1]? = some (.cells ((.part :: [.part]).map (fvOf (w.heap.size + 1 + 1) (w.heap.size) (w.heap.size + 1 + 1 + 1))).toArray 1 (0, 0)) := by
                        have q := heap_new W (.cells #[Value.func (.func 94) #[] #[.pointer (some ⟨w.heap.size + 1 + 1, 0, none⟩), .pointer (some ⟨w.heap.size, 0, none⟩)], Value.func (.func 94) #[] #[.pointer (some ⟨w.heap.size + 1 + 1, 0, none⟩), .pointer (some ⟨w.heap.size, 0, none⟩)]] 1 (0, 0))
                        rw [zW] at q
                        exact q
                      have zQ : (W.alloc (.cells #[Value.func (.func 94) #[] #[.pointer (some ⟨w.heap.size + 1 + 1, 0, none⟩), .pointer (some ⟨w.heap.size, 0, none⟩)], Value.func (.func 94) #[] #[.pointer (some ⟨w.heap.size + 1 + 1, 0, none⟩), .pointer (some ⟨w.heap.size, 0, none⟩)]] 1 (0, 0))).heap.size = w.heap.size + 1 + 1 + 1 + 1 + 1 := by simp [zW]
                      go_wp2_with fail
                      refine (form5_any (p := .part) (ps := [.part]) (o := 15) (k := 0) (pb := w.heap.size + 1 + 1 + 1) (qb := w.heap.size + 1 + 1 + 1 + 1) (tq := 1) HJ hlt (hRW.alloc _) ((hG.far AW).alloc _) (by omega) (by omega) (by omega) (by omega) (by omega) (by omega) (by omega) (by omega) (by omega) (keep_alloc rW _) (keep_alloc pW _) hQ (keep_alloc eW _) (by decide)).mono ?_
                      rintro r w1 ⟨a1, hres⟩
                      have z1 := a1.size
                      have A1 : Aside [b] w.heap.size w w1 := (AW.alloc (by omega) (.cells #[Value.func (.func 94) #[] #[.pointer (some ⟨w.heap.size + 1 + 1, 0, none⟩), .pointer (some ⟨w.heap.size, 0, none⟩)], Value.func (.func 94) #[] #[.pointer (some ⟨w.heap.size + 1 + 1, 0, none⟩), .pointer (some ⟨w.heap.size, 0, none⟩)]] 1 (0, 0))).trans ((a1.mono (B' := w.heap.size) (by omega)).wide (fun x hx hn hm => by simp at hm hn; omega)) (Nat.le_refl _)
                      have hN1 := a1.keep (keep_alloc nW (.cells #[Value.func (.func 94) #[] #[.pointer (some ⟨w.heap.size + 1 + 1, 0, none⟩), .pointer (some ⟨w.heap.size, 0, none⟩)], Value.func (.func 94) #[] #[.pointer (some ⟨w.heap.size + 1 + 1, 0, none⟩), .pointer (some ⟨w.heap.size, 0, none⟩)]] 1 (0, 0))) (by omega) (by simp; omega)
                      cases ht : (Ps.opn I J nx fun A n1 => Ps.brackets I (Ps.exprOf I A) .part [.part] (Ps.bare 15 0) n1) with
                      | err c0 a0 =>
                        rw [ht] at hres
                        obtain rfl : r = _ := hres
                        exact ⟨rfl, Post.fail (by unfold Ps.form; simp only [HSEE.out, q0, q1, q2, q3, q4, q5, q6, q7, q8, q9, if_true, Bool.false_eq_true, if_false]; exact ht) A1⟩
                      | ok e1 n1 =>
                        rw [ht] at hres
                        obtain ⟨le1, h1, _, rfl, y, rfl, he1⟩ := hres
                        have HT : Hid (Ps.form I J nx = .ok e1 n1) := by
                          show Ps.form I J nx = _
                          unfold Ps.form; simp only [HSEE.out, q0, q1, q2, q3, q4, q5, q6, q7, q8, q9, if_true, Bool.false_eq_true, if_false]
                          exact ht
                        clear ht
                        have fa := fun o => free_of hN1 o
                        have ca0 := cell_of hN1 0
                        have ca1 := cell_of hN1 1
                        have ca2 := cell_of hN1 2
                        have ca3 := cell_of hN1 3
                        have ca4 := cell_of hN1 4
                        have ca5 := cell_of hN1 5
                        simp at ca0 ca1 ca2 ca3 ca4 ca5
                        have he2 := he1.wide (ok' := fun i => w.heap.size + 1 < i) (fun i hi hl => by omega)
                        go_wp2
                        refine bodyPost_ret (v := .agg #[.int .i64 y.op, .int .i64 y.k, .int .i64 y.n, .string y.name, .slice y.aS y.nS y.cS, .slice y.aL y.nL y.cL]) (by simp [results, Tryd.results92, go_sem, ca0, ca1, ca2, ca3, ca4, ca5]) rfl ?_
                        exact Post.good HT.out (A1.put6 (k := w.heap.size + 1) (by omega) y) le1 (h1.put6 (k := w.heap.size + 1) (by omega) (by omega) y) ⟨y, rfl, (he2.put6 (k := w.heap.size + 1) (by simp) y).wide (fun i hi _ => by omega)⟩
                    | false =>
                      go_wp2_with fail
                      refine (refuse_any hRW).mono ?_
                      rintro r w1 ⟨rfl, b1⟩
                      exact ⟨rfl, Post.fail (by unfold Ps.form; simp only [HSEE.out, q0, q1, q2, q3, q4, q5, q6, q7, q8, q9, if_true, Bool.false_eq_true, if_false]; rfl) (AW.trans (aside b1) AW.size)⟩

end Go.Proofs.YtmgaeapckfdbpaaDoor
