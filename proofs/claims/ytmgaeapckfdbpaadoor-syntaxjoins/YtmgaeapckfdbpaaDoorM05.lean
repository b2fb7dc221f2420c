/-
  DERIVED. THE WALKS of the reader's expressions, where all goes well: one level after the other.
-/
import Derived.Test.YtmgaeapckfdbpaaDoorM04
namespace Go.Proofs.YtmgaeapckfdbpaaDoor
open Go.RowKit Go.IntWalk
set_option linter.unusedVariables false
set_option linter.unusedSimpArgs false
set_option maxRecDepth 100000

theorem enter112 (args : Array Value) (w : World) : (callFunc 77 args).run Tryd.prog w = .ok (.enter 77 args) w := by kernel_rfl
theorem enter115 (args : Array Value) (w : World) : (callFunc 80 args).run Tryd.prog w = .ok (.enter 80 args) w := by kernel_rfl
theorem enter118 (args : Array Value) (w : World) : (callFunc 83 args).run Tryd.prog w = .ok (.enter 83 args) w := by kernel_rfl
theorem enter119 (args : Array Value) (w : World) : (callFunc 84 args).run Tryd.prog w = .ok (.enter 84 args) w := by kernel_rfl

set_option maxHeartbeats 2000000 in
theorem product_ok {b g cap : Nat} {L : List Tk.Tok} {len op nx n1 m : Nat} {e0 x : Ex} (hG : Gives 84 b g cap L len op nx n1 e0) (hR : Rem 84 b g cap L len op 3 5 n1 e0 m x) : Gives 83 b g cap L len op nx m x := by
  refine ⟨Nat.le_trans hG.1 hR.le, fun w h => ?_⟩
  have hb := h.bb
  have hg := h.gb
  have hmf := makes
  go_enter Tryd.func83, Tryd.ntmps83
  go_wp2_with fail
  refine (fromLeft_ok hG hR enter119 (h.alloc _)).mono ?_
  rintro r w1 ⟨y, rfl, he1, h1, a1⟩
  have hA1 := a1.keep (heap_new w _) (by simp) (by simp; omega)
  have fa := fun o => free_of hA1 o
  have ca0 := cell_of hA1 0
  have ca1 := cell_of hA1 1
  have ca2 := cell_of hA1 2
  have ca3 := cell_of hA1 3
  have ca4 := cell_of hA1 4
  have ca5 := cell_of hA1 5
  simp at ca0 ca1 ca2 ca3 ca4 ca5
  have A1 := ((Aside.refl (S := [b]) (B := w.heap.size) w).alloc (Nat.le_refl _) _).trans a1 (by simp)
  have he2 := he1.wide (ok' := fun i => w.heap.size < i) (fun i hi hl => by simp at hi; omega)
  go_wp2
  refine bodyPost_ret (v := .agg #[.int .i64 y.op, .int .i64 y.k, .int .i64 y.n, .string y.name, .slice y.aS y.nS y.cS, .slice y.aL y.nL y.cL]) (by simp [results, Tryd.results83, go_sem, ca0, ca1, ca2, ca3, ca4, ca5]) rfl ⟨y, rfl, ?_, ?_, ?_⟩
  · exact ((((((he2.set (by simp) _).set (by simp) _).set (by simp) _).set (by simp) _).set (by simp) _).set (by simp) _).wide (fun i hi _ => Nat.le_of_lt hi)
  · exact (((((h1.set (by simp; omega) (by simp; omega) _).set (by simp; omega) (by simp; omega) _).set (by simp; omega) (by simp; omega) _).set (by simp; omega) (by simp; omega) _).set (by simp; omega) (by simp; omega) _).set (by simp; omega) (by simp; omega) _
  · exact (((((A1.set (by simp) _).set (by simp) _).set (by simp) _).set (by simp) _).set (by simp) _).set (by simp) _

set_option maxHeartbeats 2000000 in
theorem sum_ok {b g cap : Nat} {L : List Tk.Tok} {len op nx n1 m : Nat} {e0 x : Ex} (hG : Gives 83 b g cap L len op nx n1 e0) (hR : Rem 83 b g cap L len op 1 2 n1 e0 m x) : Gives 82 b g cap L len op nx m x := by
  refine ⟨Nat.le_trans hG.1 hR.le, fun w h => ?_⟩
  have hb := h.bb
  have hg := h.gb
  have hmf := makes
  go_enter Tryd.func82, Tryd.ntmps82
  go_wp2_with fail
  refine (fromLeft_ok hG hR enter118 (h.alloc _)).mono ?_
  rintro r w1 ⟨y, rfl, he1, h1, a1⟩
  have hA1 := a1.keep (heap_new w _) (by simp) (by simp; omega)
  have fa := fun o => free_of hA1 o
  have ca0 := cell_of hA1 0
  have ca1 := cell_of hA1 1
  have ca2 := cell_of hA1 2
  have ca3 := cell_of hA1 3
  have ca4 := cell_of hA1 4
  have ca5 := cell_of hA1 5
  simp at ca0 ca1 ca2 ca3 ca4 ca5
  have A1 := ((Aside.refl (S := [b]) (B := w.heap.size) w).alloc (Nat.le_refl _) _).trans a1 (by simp)
  have he2 := he1.wide (ok' := fun i => w.heap.size < i) (fun i hi hl => by simp at hi; omega)
  go_wp2
  refine bodyPost_ret (v := .agg #[.int .i64 y.op, .int .i64 y.k, .int .i64 y.n, .string y.name, .slice y.aS y.nS y.cS, .slice y.aL y.nL y.cL]) (by simp [results, Tryd.results82, go_sem, ca0, ca1, ca2, ca3, ca4, ca5]) rfl ⟨y, rfl, ?_, ?_, ?_⟩
  · exact ((((((he2.set (by simp) _).set (by simp) _).set (by simp) _).set (by simp) _).set (by simp) _).set (by simp) _).wide (fun i hi _ => Nat.le_of_lt hi)
  · exact (((((h1.set (by simp; omega) (by simp; omega) _).set (by simp; omega) (by simp; omega) _).set (by simp; omega) (by simp; omega) _).set (by simp; omega) (by simp; omega) _).set (by simp; omega) (by simp; omega) _).set (by simp; omega) (by simp; omega) _
  · exact (((((A1.set (by simp) _).set (by simp) _).set (by simp) _).set (by simp) _).set (by simp) _).set (by simp) _

set_option maxHeartbeats 2000000 in
theorem conjunction_ok {b g cap : Nat} {L : List Tk.Tok} {len op nx n1 m : Nat} {e0 x : Ex} (hG : Gives 80 b g cap L len op nx n1 e0) (hR : Rem 80 b g cap L len op 10 10 n1 e0 m x) : Gives 77 b g cap L len op nx m x := by
  refine ⟨Nat.le_trans hG.1 hR.le, fun w h => ?_⟩
  have hb := h.bb
  have hg := h.gb
  have hmf := makes
  go_enter Tryd.func77, Tryd.ntmps77
  go_wp2_with fail
  refine (fromLeft_ok hG hR enter115 (h.alloc _)).mono ?_
  rintro r w1 ⟨y, rfl, he1, h1, a1⟩
  have hA1 := a1.keep (heap_new w _) (by simp) (by simp; omega)
  have fa := fun o => free_of hA1 o
  have ca0 := cell_of hA1 0
  have ca1 := cell_of hA1 1
  have ca2 := cell_of hA1 2
  have ca3 := cell_of hA1 3
  have ca4 := cell_of hA1 4
  have ca5 := cell_of hA1 5
  simp at ca0 ca1 ca2 ca3 ca4 ca5
  have A1 := ((Aside.refl (S := [b]) (B := w.heap.size) w).alloc (Nat.le_refl _) _).trans a1 (by simp)
  have he2 := he1.wide (ok' := fun i => w.heap.size < i) (fun i hi hl => by simp at hi; omega)
  go_wp2
  refine bodyPost_ret (v := .agg #[.int .i64 y.op, .int .i64 y.k, .int .i64 y.n, .string y.name, .slice y.aS y.nS y.cS, .slice y.aL y.nL y.cL]) (by simp [results, Tryd.results77, go_sem, ca0, ca1, ca2, ca3, ca4, ca5]) rfl ⟨y, rfl, ?_, ?_, ?_⟩
  · exact ((((((he2.set (by simp) _).set (by simp) _).set (by simp) _).set (by simp) _).set (by simp) _).set (by simp) _).wide (fun i hi _ => Nat.le_of_lt hi)
  · exact (((((h1.set (by simp; omega) (by simp; omega) _).set (by simp; omega) (by simp; omega) _).set (by simp; omega) (by simp; omega) _).set (by simp; omega) (by simp; omega) _).set (by simp; omega) (by simp; omega) _).set (by simp; omega) (by simp; omega) _
  · exact (((((A1.set (by simp) _).set (by simp) _).set (by simp) _).set (by simp) _).set (by simp) _).set (by simp) _

set_option maxHeartbeats 2000000 in
theorem expr_ok {b g cap : Nat} {L : List Tk.Tok} {len op nx n1 m : Nat} {e0 x : Ex} (hG : Gives 77 b g cap L len op nx n1 e0) (hR : Rem 77 b g cap L len op 11 12 n1 e0 m x) : Gives 74 b g cap L len op nx m x := by
  refine ⟨Nat.le_trans hG.1 hR.le, fun w h => ?_⟩
  have hb := h.bb
  have hg := h.gb
  have hmf := makes
  go_enter Tryd.func74, Tryd.ntmps74
  go_wp2_with fail
  refine (fromLeft_ok hG hR enter112 (h.alloc _)).mono ?_
  rintro r w1 ⟨y, rfl, he1, h1, a1⟩
  have hA1 := a1.keep (heap_new w _) (by simp) (by simp; omega)
  have fa := fun o => free_of hA1 o
  have ca0 := cell_of hA1 0
  have ca1 := cell_of hA1 1
  have ca2 := cell_of hA1 2
  have ca3 := cell_of hA1 3
  have ca4 := cell_of hA1 4
  have ca5 := cell_of hA1 5
  simp at ca0 ca1 ca2 ca3 ca4 ca5
  have A1 := ((Aside.refl (S := [b]) (B := w.heap.size) w).alloc (Nat.le_refl _) _).trans a1 (by simp)
  have he2 := he1.wide (ok' := fun i => w.heap.size < i) (fun i hi hl => by simp at hi; omega)
  go_wp2
  refine bodyPost_ret (v := .agg #[.int .i64 y.op, .int .i64 y.k, .int .i64 y.n, .string y.name, .slice y.aS y.nS y.cS, .slice y.aL y.nL y.cL]) (by simp [results, Tryd.results74, go_sem, ca0, ca1, ca2, ca3, ca4, ca5]) rfl ⟨y, rfl, ?_, ?_, ?_⟩
  · exact ((((((he2.set (by simp) _).set (by simp) _).set (by simp) _).set (by simp) _).set (by simp) _).set (by simp) _).wide (fun i hi _ => Nat.le_of_lt hi)
  · exact (((((h1.set (by simp; omega) (by simp; omega) _).set (by simp; omega) (by simp; omega) _).set (by simp; omega) (by simp; omega) _).set (by simp; omega) (by simp; omega) _).set (by simp; omega) (by simp; omega) _).set (by simp; omega) (by simp; omega) _
  · exact (((((A1.set (by simp) _).set (by simp) _).set (by simp) _).set (by simp) _).set (by simp) _).set (by simp) _

end Go.Proofs.YtmgaeapckfdbpaaDoor


/-
  DERIVED. THE WALKS of the reader's expressions, where all goes well: a name, a number, what is ahead, a comparison, the number of parts.
-/
namespace Go.Proofs.YtmgaeapckfdbpaaDoor
open Go.RowKit Go.IntWalk
set_option linter.unusedVariables false
set_option linter.unusedSimpArgs false
set_option maxRecDepth 100000


set_option maxHeartbeats 4000000 in
theorem unit_name {b g cap : Nat} {L : List Tk.Tok} {len op nx : Nat} (hk : (peekT L len nx).kind = 2) (hn : nx < L.length) : Gives 86 b g cap L len op nx (nx + 1) (.mk 3 0 0 (str (peekT L len nx).text) [] []) := by
  refine ⟨Nat.le_succ _, fun w h => ?_⟩
  have hb := h.bb
  have hg := h.gb
  have hp := fun o => @peek_any _ _ _ _ _ _ _ _ (h.alloc o)
  obtain ⟨t, ht⟩ : ∃ t, t = peekT L len nx := ⟨_, rfl⟩
  rw [← ht] at hk ⊢
  have hp' : ∀ o, Calls Tryd.prog 39 #[.pointer (some ⟨b, 0, none⟩)] (w.alloc o) fun e w' => e = .returned (.agg #[.int .i64 2, .int .i64 (t.place : Int), .string (str t.text), .int .i64 t.n]) ∧ Below (w.alloc o).heap.size (w.alloc o) w' := by
    intro o
    have := hp o
    rw [← ht] at this
    unfold tokV at this
    rw [hk] at this
    exact this
  clear ht hp
  go_enter Tryd.func86, Tryd.ntmps86
  go_wp2_with fail
  refine (hp' _).mono ?_
  rintro r w1 ⟨rfl, b1⟩
  have z1 : w.heap.size + 1 ≤ w1.heap.size := by simpa using b1.size
  have hA1 := (aside b1 (S := [])).keep (heap_new w _) (by simp) (by simp)
  have h1 := (h.alloc _).below b1
  have A1 := ((Aside.refl (S := [b]) (B := w.heap.size) w).alloc (Nat.le_refl _) _).trans (aside b1) (by simp)
  clear b1
  go_wp2_with fail
  refine (step_any (h1.alloc _) hn).mono ?_
  rintro r w2 ⟨rfl, h2, a2⟩
  have hA2 := a2.keep (keep_alloc hA1 _) (by simp; omega) (by simp; omega)
  have hT2 := a2.keep (heap_new w1 _) (by simp) (by simp; omega)
  have A2 := (A1.alloc (by omega) _).trans a2 (by simp; omega)
  have ct2 := cell_of hT2 2
  have ct3 := cell_of hT2 3
  have fa := fun o => free_of hA2 o
  have ca0 := cell_of hA2 0
  have ca1 := cell_of hA2 1
  have ca2 := cell_of hA2 2
  have ca3 := cell_of hA2 3
  have ca4 := cell_of hA2 4
  have ca5 := cell_of hA2 5
  simp at ca0 ca1 ca2 ca3 ca4 ca5 ct2 ct3
  go_wp2
  refine bodyPost_ret (v := .agg #[.int .i64 3, .int .i64 0, .int .i64 0, .string (str t.text), .slice none 0 0, .slice none 0 0]) (by simp [results, Tryd.results86, go_sem, ca0, ca1, ca2, ca3, ca4, ca5]) rfl ⟨⟨3, 0, 0, str t.text, none, 0, 0, none, 0, 0⟩, rfl, HEx.leaf _ _ _ _, ?_, ?_⟩
  · exact (((((h2.set (by simp; omega) (by simp; omega) _).set (by simp; omega) (by simp; omega) _).set (by simp; omega) (by simp; omega) _).set (by simp; omega) (by simp; omega) _).set (by simp; omega) (by simp; omega) _).set (by simp; omega) (by simp; omega) _
  · exact (((((A2.set (by simp) _).set (by simp) _).set (by simp) _).set (by simp) _).set (by simp) _).set (by simp) _

set_option maxHeartbeats 4000000 in
theorem unit_num {b g cap : Nat} {L : List Tk.Tok} {len op nx : Nat} (hk : (peekT L len nx).kind = 3) (hn : nx < L.length) : Gives 86 b g cap L len op nx (nx + 1) (.mk 1 0 (peekT L len nx).n ⟨#[]⟩ [] []) := by
  refine ⟨Nat.le_succ _, fun w h => ?_⟩
  have hb := h.bb
  have hg := h.gb
  have hp := fun o => @peek_any _ _ _ _ _ _ _ _ (h.alloc o)
  obtain ⟨t, ht⟩ : ∃ t, t = peekT L len nx := ⟨_, rfl⟩
  rw [← ht] at hk ⊢
  have hp' : ∀ o, Calls Tryd.prog 39 #[.pointer (some ⟨b, 0, none⟩)] (w.alloc o) fun e w' => e = .returned (.agg #[.int .i64 3, .int .i64 (t.place : Int), .string (str t.text), .int .i64 t.n]) ∧ Below (w.alloc o).heap.size (w.alloc o) w' := by
    intro o
    have := hp o
    rw [← ht] at this
    unfold tokV at this
    rw [hk] at this
    exact this
  clear ht hp
  go_enter Tryd.func86, Tryd.ntmps86
  go_wp2_with fail
  refine (hp' _).mono ?_
  rintro r w1 ⟨rfl, b1⟩
  have z1 : w.heap.size + 1 ≤ w1.heap.size := by simpa using b1.size
  have hA1 := (aside b1 (S := [])).keep (heap_new w _) (by simp) (by simp)
  have h1 := (h.alloc _).below b1
  have A1 := ((Aside.refl (S := [b]) (B := w.heap.size) w).alloc (Nat.le_refl _) _).trans (aside b1) (by simp)
  clear b1
  go_wp2_with fail
  refine (step_any (h1.alloc _) hn).mono ?_
  rintro r w2 ⟨rfl, h2, a2⟩
  have hA2 := a2.keep (keep_alloc hA1 _) (by simp; omega) (by simp; omega)
  have hT2 := a2.keep (heap_new w1 _) (by simp) (by simp; omega)
  have A2 := (A1.alloc (by omega) _).trans a2 (by simp; omega)
  have ct2 := cell_of hT2 2
  have ct3 := cell_of hT2 3
  have fa := fun o => free_of hA2 o
  have ca0 := cell_of hA2 0
  have ca1 := cell_of hA2 1
  have ca2 := cell_of hA2 2
  have ca3 := cell_of hA2 3
  have ca4 := cell_of hA2 4
  have ca5 := cell_of hA2 5
  simp at ca0 ca1 ca2 ca3 ca4 ca5 ct2 ct3
  go_wp2
  refine bodyPost_ret (v := .agg #[.int .i64 1, .int .i64 0, .int .i64 t.n, .string ⟨#[]⟩, .slice none 0 0, .slice none 0 0]) (by simp [results, Tryd.results86, go_sem, ca0, ca1, ca2, ca3, ca4, ca5]) rfl ⟨⟨1, 0, t.n, ⟨#[]⟩, none, 0, 0, none, 0, 0⟩, rfl, HEx.leaf _ _ _ _, ?_, ?_⟩
  · exact (((((h2.set (by simp; omega) (by simp; omega) _).set (by simp; omega) (by simp; omega) _).set (by simp; omega) (by simp; omega) _).set (by simp; omega) (by simp; omega) _).set (by simp; omega) (by simp; omega) _).set (by simp; omega) (by simp; omega) _
  · exact (((((A2.set (by simp) _).set (by simp) _).set (by simp) _).set (by simp) _).set (by simp) _).set (by simp) _

set_option maxHeartbeats 4000000 in
theorem ahead_ok {b g cap : Nat} {L : List Tk.Tok} {len op nx n1 : Nat} {e : Ex} (hG : Gives 86 b g cap L len op nx n1 e) (hm : ((peekT L len nx).text == [45]) = false) (hnt : ((peekT L len nx).text == [110, 111, 116]) = false) (hi : ((peekT L len n1).text == [91]) = false) : Gives 84 b g cap L len op nx n1 e := by
  refine ⟨hG.1, fun w h => ?_⟩
  have hb := h.bb
  have hg := h.gb
  have s1 := fun o => sees_any (h.alloc o) ⟨#[45]⟩
  go_enter Tryd.func84, Tryd.ntmps84
  go_wp2_with fail
  refine (sees_any (h.alloc _) ⟨#[45]⟩).mono ?_
  rintro r w1 ⟨rfl, b1⟩
  rw [hm]
  have h1 := (h.alloc _).below b1
  have z1 : w.heap.size + 1 ≤ w1.heap.size := by simpa using b1.size
  have hA1 := (aside b1 (S := [])).keep (heap_new w _) (by simp) (by simp)
  have A1 := ((Aside.refl (S := [b]) (B := w.heap.size) w).alloc (Nat.le_refl _) _).trans (aside b1) (by simp)
  clear b1 s1
  go_wp2_with fail
  refine (sees_any h1 ⟨#[110, 111, 116]⟩).mono ?_
  rintro r w2 ⟨rfl, b2⟩
  rw [hnt]
  have h2 := h1.below b2
  have z2 := b2.size
  have hA2 := (aside b2 (S := [])).keep hA1 (lt_of hA1) (by simp)
  have A2 := A1.trans (aside b2) (by omega)
  clear b2 hA1 A1
  go_wp2_with fail
  refine (hG.2 _ h2).mono ?_
  rintro r w3 ⟨y, rfl, he3, h3, a3⟩
  have z3 := a3.size
  have hA3 := a3.keep hA2 (lt_of hA2) (by simp; omega)
  have A3 := A2.trans a3 (by omega)
  clear a3 hA2 A2
  go_wp2
  go_loopg [17] 0 (fun k v wr => wr = w3.alloc (.cells #[.int .i64 y.op, .int .i64 y.k, .int .i64 y.n, .string y.name, .slice y.aS y.nS y.cS, .slice y.aL y.nL y.cL] 46 (0, 0)))
  case atStart => rfl
  case round =>
    subst hrel
    go_wp2_with fail
    refine (sees_any (h3.alloc _) ⟨#[91]⟩).mono ?_
    rintro r w4 ⟨rfl, b4⟩
    rw [hi]
    have z4 : w3.heap.size + 1 ≤ w4.heap.size := by simpa using b4.size
    have h4 := (h3.alloc _).below b4
    have hA4 := (aside b4 (S := [])).keep (keep_alloc hA3 _) (by simp; omega) (by simp)
    have hB4 := (aside b4 (S := [])).keep (heap_new w3 _) (by simp) (by simp)
    have A4 := (A3.alloc (by omega) _).trans (aside b4) (by simp; omega)
    have he4 := ((he3.wide (ok' := fun i => w.heap.size < i) (fun i hi hl => by omega)).under ((Below.refl _ w3).alloc (Nat.le_refl _) _)).under b4
    clear b4
    have fa := fun o => free_of hA4 o
    have ca0 := cell_of hA4 0
    have ca1 := cell_of hA4 1
    have ca2 := cell_of hA4 2
    have ca3 := cell_of hA4 3
    have ca4 := cell_of hA4 4
    have ca5 := cell_of hA4 5
    have cb0 := cell_of hB4 0
    have cb1 := cell_of hB4 1
    have cb2 := cell_of hB4 2
    have cb3 := cell_of hB4 3
    have cb4 := cell_of hB4 4
    have cb5 := cell_of hB4 5
    simp at ca0 ca1 ca2 ca3 ca4 ca5 cb0 cb1 cb2 cb3 cb4 cb5
    go_wp2
    refine bodyPost_ret (v := .agg #[.int .i64 y.op, .int .i64 y.k, .int .i64 y.n, .string y.name, .slice y.aS y.nS y.cS, .slice y.aL y.nL y.cL]) (by simp [results, Tryd.results84, go_sem, ca0, ca1, ca2, ca3, ca4, ca5]) rfl ⟨y, rfl, ?_, ?_, ?_⟩
    · exact ((((((he4.set (by simp) _).set (by simp) _).set (by simp) _).set (by simp) _).set (by simp) _).set (by simp) _).wide (fun i hi _ => Nat.le_of_lt hi)
    · exact (((((h4.set (by simp; omega) (by simp; omega) _).set (by simp; omega) (by simp; omega) _).set (by simp; omega) (by simp; omega) _).set (by simp; omega) (by simp; omega) _).set (by simp; omega) (by simp; omega) _).set (by simp; omega) (by simp; omega) _
    · exact (((((A4.set (by simp) _).set (by simp) _).set (by simp) _).set (by simp) _).set (by simp) _).set (by simp) _

set_option maxHeartbeats 4000000 in
theorem comparison_one {b g cap : Nat} {L : List Tk.Tok} {len op nx n1 : Nat} {e : Ex} (hG : Gives 82 b g cap L len op nx n1 e) (hz : btw 8 9 (peekT L len n1).text = 0) : Gives 80 b g cap L len op nx n1 e := by
  refine ⟨hG.1, fun w h => ?_⟩
  have hb := h.bb
  have hg := h.gb
  go_enter Tryd.func80, Tryd.ntmps80
  go_wp2_with fail
  refine (hG.2 _ (h.alloc _)).mono ?_
  rintro r w3 ⟨y, rfl, he3, h3, a3⟩
  have z3 : w.heap.size + 1 ≤ w3.heap.size := by simpa using a3.size
  have hA3 := a3.keep (heap_new w _) (by simp) (by simp; omega)
  have A3 := ((Aside.refl (S := [b]) (B := w.heap.size) w).alloc (Nat.le_refl _) _).trans a3 (by simp)
  clear a3
  go_wp2_with fail
  refine (between_any (h3.alloc _) 8 9).mono ?_
  rintro r w4 ⟨rfl, b4⟩
  rw [hz]
  have z4 : w3.heap.size + 1 ≤ w4.heap.size := by simpa using b4.size
  have h4 := (h3.alloc _).below b4
  have hA4 := (aside b4 (S := [])).keep (keep_alloc hA3 _) (by simp; omega) (by simp)
  have hB4 := (aside b4 (S := [])).keep (heap_new w3 _) (by simp) (by simp)
  have A4 := (A3.alloc (by omega) _).trans (aside b4) (by simp; omega)
  have he4 := ((he3.wide (ok' := fun i => w.heap.size < i) (fun i hi hl => by simp at hi; omega)).under ((Below.refl _ w3).alloc (Nat.le_refl _) _)).under b4
  clear b4
  have fa := fun o => free_of hA4 o
  have ca0 := cell_of hA4 0
  have ca1 := cell_of hA4 1
  have ca2 := cell_of hA4 2
  have ca3 := cell_of hA4 3
  have ca4 := cell_of hA4 4
  have ca5 := cell_of hA4 5
  have cb0 := cell_of hB4 0
  have cb1 := cell_of hB4 1
  have cb2 := cell_of hB4 2
  have cb3 := cell_of hB4 3
  have cb4 := cell_of hB4 4
  have cb5 := cell_of hB4 5
  simp at ca0 ca1 ca2 ca3 ca4 ca5 cb0 cb1 cb2 cb3 cb4 cb5
  go_wp2
  refine bodyPost_ret (v := .agg #[.int .i64 y.op, .int .i64 y.k, .int .i64 y.n, .string y.name, .slice y.aS y.nS y.cS, .slice y.aL y.nL y.cL]) (by simp [results, Tryd.results80, go_sem, ca0, ca1, ca2, ca3, ca4, ca5]) rfl ⟨y, rfl, ?_, ?_, ?_⟩
  · exact ((((((he4.set (by simp) _).set (by simp) _).set (by simp) _).set (by simp) _).set (by simp) _).set (by simp) _).wide (fun i hi _ => Nat.le_of_lt hi)
  · exact (((((h4.set (by simp; omega) (by simp; omega) _).set (by simp; omega) (by simp; omega) _).set (by simp; omega) (by simp; omega) _).set (by simp; omega) (by simp; omega) _).set (by simp; omega) (by simp; omega) _).set (by simp; omega) (by simp; omega) _
  · exact (((((A4.set (by simp) _).set (by simp) _).set (by simp) _).set (by simp) _).set (by simp) _).set (by simp) _

end Go.Proofs.YtmgaeapckfdbpaaDoor
