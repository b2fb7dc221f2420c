/-
  DERIVED. THE WALKS of the reader's expressions, where all goes well: operators, and operations of one kind from the left.
-/
import Derived.Test.YtplofgkofkjhdaaGreatDoorMem
import Derived.Deep.RegionWith
import Derived.Deep.LoopGhost
namespace Go.Proofs.YtplofgkofkjhdaaGreatDoor
open Go.RowKit Go.IntWalk
set_option linter.unusedVariables false
set_option linter.unusedSimpArgs false
set_option maxRecDepth 100000

/-- the operator that a text is -/
def signOp (t : List UInt8) : Int :=
  if t == [43] then 1 else if t == [45] then 2 else if t == [42] then 3 else if t == [47] then 4 else if t == [37] then 5 else
  if t == [60] then 8 else if t == [61, 61] then 9 else if t == [97, 110, 100] then 10 else if t == [111, 114] then 11 else if t == [120, 111, 114] then 12 else 0

set_option maxHeartbeats 2000000 in
theorem signOp_any (t : List UInt8) (w : World) : Calls Tryz.prog 116 #[.string (str t)] w fun e w' => e = .returned (.int .i64 (signOp t)) ∧ w' = w := by
  obtain ⟨r, hr⟩ : ∃ r, r = signOp t := ⟨_, rfl⟩
  rw [← hr]
  have HR := hide hr
  clear hr
  have ht : (str t).toList = t := by rw [Lib.toList_data]; rfl
  go_enter Tryz.func116, Tryz.ntmps116
  go_wp2
  all_goals go_ret
  all_goals refine ⟨ret_int ?_, rfl⟩
  all_goals (have hr := HR.out; simp [signOp, *] at hr ⊢)
  all_goals (try simp_all)

/-- .. if it is one of those from a to c; else 0 -/
def btw (a c : Int) (t : List UInt8) : Int := if signOp t < a ∨ c < signOp t then 0 else signOp t

set_option maxHeartbeats 2000000 in
theorem between_any {w : World} {b g cap : Nat} {L : List Tk.Tok} {len nx op : Nat} (h : Rd w b g cap L len nx op) (a c : Int) :
    Calls Tryz.prog 113 #[.pointer (some ⟨b, 0, none⟩), .int .i64 a, .int .i64 c] w fun e w' => e = .returned (.int .i64 (btw a c (peekT L len nx).text)) ∧ Below w.heap.size w w' := by
  have hp := @peek_any _ _ _ _ _ _ _ _ h
  obtain ⟨t, ht⟩ : ∃ t, t = peekT L len nx := ⟨_, rfl⟩
  rw [← ht] at hp ⊢
  unfold tokV at hp
  clear h ht
  have hf := fun x w => tok_field2 t x w
  obtain ⟨r, hr⟩ : ∃ r, r = btw a c t.text := ⟨_, rfl⟩
  rw [← hr]
  obtain ⟨s, hs⟩ : ∃ s, s = signOp t.text := ⟨_, rfl⟩
  unfold btw at hr
  rw [← hs] at hr
  have HR := hide hr
  clear hr
  go_enter Tryz.func113, Tryz.ntmps113
  go_wp2_with fail
  refine hp.mono ?_
  rintro e w' ⟨rfl, hb⟩
  go_wp2_with fail
  refine (signOp_any _ _).mono ?_
  rintro e w'' ⟨rfl, rfl⟩
  rw [← hs]
  clear hs
  go_wp2
  all_goals go_ret
  all_goals refine ⟨ret_int ?_, hb⟩
  all_goals (have hr := HR.out; simp_all)
  all_goals omega

/-- F reads an expression e from token nx to token n1. -/
def Gives (F b g cap : Nat) (L : List Tk.Tok) (len op nx n1 : Nat) (e : Ex) : Prop :=
  nx ≤ n1 ∧ ∀ w, Rd w b g cap L len nx op → Calls Tryz.prog F #[.pointer (some ⟨b, 0, none⟩)] w fun r w' => ∃ x : ExV,
    r = .returned (.agg #[.int .i64 x.op, .int .i64 x.k, .int .i64 x.n, .string x.name, .slice x.aS x.nS x.cS, .slice x.aL x.nL x.cL]) ∧ HEx (fun i => w.heap.size ≤ i) w' x.cells e ∧ Rd w' b g cap L len n1 op ∧ Aside [b] w.heap.size w w'

/-- What is left to do at token n with e so far ends at token m with x. -/
inductive Rem (F b g cap : Nat) (L : List Tk.Tok) (len op : Nat) (a c : Int) : Nat → Ex → Nat → Ex → Prop
  | stop {n : Nat} {e : Ex} : btw a c (peekT L len n).text = 0 → Rem F b g cap L len op a c n e n e
  | step {n n' m : Nat} {e r x : Ex} {k : Int} : btw a c (peekT L len n).text = k → k ≠ 0 → n < L.length → Gives F b g cap L len op (n + 1) n' r → Rem F b g cap L len op a c n' (.mk 5 k 0 ⟨#[]⟩ [] [e, r]) m x → Rem F b g cap L len op a c n e m x

set_option maxHeartbeats 2000000 in
theorem pair_any {w : World} {ok : Nat → Prop} {x y : ExV} {e f : Ex} (k : Int) (hx : HEx ok w x.cells e) (hy : HEx ok w y.cells f) (hok : ∀ i, w.heap.size ≤ i → ok i) :
    Calls Tryz.prog 114 #[.int .i64 k, .agg #[.int .i64 x.op, .int .i64 x.k, .int .i64 x.n, .string x.name, .slice x.aS x.nS x.cS, .slice x.aL x.nL x.cL], .agg #[.int .i64 y.op, .int .i64 y.k, .int .i64 y.n, .string y.name, .slice y.aS y.nS y.cS, .slice y.aL y.nL y.cL]] w fun r w' => ∃ z : ExV,
      r = .returned (.agg #[.int .i64 z.op, .int .i64 z.k, .int .i64 z.n, .string z.name, .slice z.aS z.nS z.cS, .slice z.aL z.nL z.cL]) ∧ HEx ok w' z.cells (.mk 5 k 0 ⟨#[]⟩ [] [e, f]) ∧ Below w.heap.size w w' := by
  go_enter Tryz.func114, Tryz.ntmps114
  go_wp2
  obtain ⟨W, hW⟩ : ∃ W, W = (((w.alloc (Obj.cells #[.int .i64 x.op, .int .i64 x.k, .int .i64 x.n, .string x.name, .slice x.aS x.nS x.cS, .slice x.aL x.nL x.cL] 45 (0, 0))).alloc (Obj.cells #[.int .i64 y.op, .int .i64 y.k, .int .i64 y.n, .string y.name, .slice y.aS y.nS y.cS, .slice y.aL y.nL y.cL] 45 (0, 0))).alloc
      (Obj.cells #[.int .i64 5, .int .i64 k, .int .i64 0, .string ⟨#[]⟩, .slice none 0 0, .slice (some ⟨w.heap.size + 1 + 1 + 1, 0, none⟩) 2 2] 45 (0, 0))) := ⟨_, rfl⟩
  have hz : W.heap.size = w.heap.size + 1 + 1 + 1 := by rw [hW]; simp
  have hbW : Below w.heap.size w W := by rw [hW]; exact (((Below.refl _ w).alloc (Nat.le_refl _) _).alloc (by simp) _).alloc (by simp; omega) _
  have hc : W.heap[w.heap.size + 1 + 1]? = some (.cells #[.int .i64 5, .int .i64 k, .int .i64 0, .string ⟨#[]⟩, .slice none 0 0, .slice (some ⟨w.heap.size + 1 + 1 + 1, 0, none⟩) 2 2] 45 (0, 0)) := by
    rw [hW]
    have := heap_new ((w.alloc (Obj.cells #[.int .i64 x.op, .int .i64 x.k, .int .i64 x.n, .string x.name, .slice x.aS x.nS x.cS, .slice x.aL x.nL x.cL] 45 (0, 0))).alloc (Obj.cells #[.int .i64 y.op, .int .i64 y.k, .int .i64 y.n, .string y.name, .slice y.aS y.nS y.cS, .slice y.aL y.nL y.cL] 45 (0, 0))) (Obj.cells #[.int .i64 5, .int .i64 k, .int .i64 0, .string ⟨#[]⟩, .slice none 0 0, .slice (some ⟨w.heap.size + 1 + 1 + 1, 0, none⟩) 2 2] 45 (0, 0))
    simpa using this
  rw [← hW]
  have hp := HEx.pair k (hx.under hbW) (hy.under hbW) 45 (hok _ (by omega))
  rw [hz] at hp
  obtain ⟨W', hW'⟩ : ∃ W', W' = W.alloc (Obj.cells #[.int .i64 x.op, .int .i64 x.k, .int .i64 x.n, .string x.name, .slice x.aS x.nS x.cS, .slice x.aL x.nL x.cL, .int .i64 y.op, .int .i64 y.k, .int .i64 y.n, .string y.name, .slice y.aS y.nS y.cS, .slice y.aL y.nL y.cL] 45 (0, 0)) := ⟨_, rfl⟩
  have hb' : Below w.heap.size w W' := by rw [hW']; exact hbW.alloc (by omega) _
  have hc' : W'.heap[w.heap.size + 1 + 1]? = some (.cells #[.int .i64 5, .int .i64 k, .int .i64 0, .string ⟨#[]⟩, .slice none 0 0, .slice (some ⟨w.heap.size + 1 + 1 + 1, 0, none⟩) 2 2] 45 (0, 0)) := by rw [hW']; exact keep_alloc hc _
  rw [← hW'] at hp ⊢
  have c0 := cell_of hc' 0
  have c1 := cell_of hc' 1
  have c2 := cell_of hc' 2
  have c3 := cell_of hc' 3
  have c4 := cell_of hc' 4
  have c5 := cell_of hc' 5
  simp at c0 c1 c2 c3 c4 c5
  exact bodyPost_ret (v := .agg #[.int .i64 5, .int .i64 k, .int .i64 0, .string ⟨#[]⟩, .slice none 0 0, .slice (some ⟨w.heap.size + 1 + 1 + 1, 0, none⟩) 2 2]) (by simp [results, Tryz.results114, go_sem, c0, c1, c2, c3, c4, c5]) rfl ⟨⟨5, k, 0, ⟨#[]⟩, none, 0, 0, some ⟨w.heap.size + 1 + 1 + 1, 0, none⟩, 2, 2⟩, rfl, hp, hb'⟩

set_option maxHeartbeats 8000000 in
theorem fromLeft_ok {F b g cap : Nat} {L : List Tk.Tok} {len op nx n1 m : Nat} {e0 x : Ex} {a c : Int} (hG : Gives F b g cap L len op nx n1 e0) (hR : Rem F b g cap L len op a c n1 e0 m x) (hent : ∀ args w, (callFunc F args).run Tryz.prog w = .ok (.enter F args) w) {w : World} (h : Rd w b g cap L len nx op) :
    Calls Tryz.prog 111 #[.pointer (some ⟨b, 0, none⟩), .int .i64 a, .int .i64 c, .func (.func F) #[.pointer (some ⟨b, 0, none⟩)] #[]] w fun r w' => ∃ x' : ExV,
      r = .returned (.agg #[.int .i64 x'.op, .int .i64 x'.k, .int .i64 x'.n, .string x'.name, .slice x'.aS x'.nS x'.cS, .slice x'.aL x'.nL x'.cL]) ∧ HEx (fun i => w.heap.size ≤ i) w' x'.cells x ∧ Rd w' b g cap L len m op ∧ Aside [b] w.heap.size w w' := by
  have hb := h.bb
  have hg := h.gb
  go_enter Tryz.func111, Tryz.ntmps111
  go_wp2_with fail
  refine (hG.2 _ (h.alloc _)).mono ?_
  rintro r w1 ⟨x0, rfl, he1, h1, a1⟩
  have z1 : w.heap.size + 1 ≤ w1.heap.size := by simpa using a1.size
  have hA1 := a1.keep (heap_new w _) (by simp) (by simp; omega)
  have A1 := ((Aside.refl (S := [b]) (B := w.heap.size) w).alloc (Nat.le_refl _) _).trans a1 (by simp)
  clear a1
  go_wp2
  go_loopg [10] L.length (fun k v wr => ∃ (n : Nat) (y : ExV) (e : Ex), L.length ≤ n + k ∧ Rem F b g cap L len op a c n e m x ∧ HEx (fun i => w.heap.size < i ∧ i ≠ w1.heap.size) wr y.cells e ∧ Rd wr b g cap L len n op ∧ Aside [b] w.heap.size w wr ∧
      wr.heap[w.heap.size]? = some (.cells #[.int .i64 0, .int .i64 0, .int .i64 0, .string ⟨#[]⟩, .slice none 0 0, .slice none 0 0] 45 (0, 0)) ∧
      wr.heap[w1.heap.size]? = some (.cells #[.int .i64 y.op, .int .i64 y.k, .int .i64 y.n, .string y.name, .slice y.aS y.nS y.cS, .slice y.aL y.nL y.cL] 45 (0, 0)))
  case atStart => exact ⟨n1, x0, e0, by omega, hR, (he1.wide (ok' := fun i => w.heap.size < i ∧ i ≠ w1.heap.size) (fun i hi hl => ⟨by simp at hi; omega, by omega⟩)).under ((Below.refl _ w1).alloc (Nat.le_refl _) _), h1.alloc _, A1.alloc (by omega) _, keep_alloc hA1 _, heap_new _ _⟩
  case round => 
    obtain ⟨n, y, e, hn, hrem, he, hrd, has, hA, hB⟩ := hrel
    cases hrem with
    | stop hz =>
      go_wp2_with fail
      refine (between_any hrd a c).mono ?_
      rintro r w2 ⟨rfl, b2⟩
      rw [hz]
      have cb0 := cell_of ((aside b2 (S := [])).keep hB (lt_of hB) (by simp)) 0
      have cb1 := cell_of ((aside b2 (S := [])).keep hB (lt_of hB) (by simp)) 1
      have cb2 := cell_of ((aside b2 (S := [])).keep hB (lt_of hB) (by simp)) 2
      have cb3 := cell_of ((aside b2 (S := [])).keep hB (lt_of hB) (by simp)) 3
      have cb4 := cell_of ((aside b2 (S := [])).keep hB (lt_of hB) (by simp)) 4
      have cb5 := cell_of ((aside b2 (S := [])).keep hB (lt_of hB) (by simp)) 5
      simp at cb0 cb1 cb2 cb3 cb4 cb5
      have hA2 := (aside b2 (S := [])).keep hA (lt_of hA) (by simp)
      have fa := fun o => free_of hA2 o
      have ca0 := cell_of hA2 0
      have ca1 := cell_of hA2 1
      have ca2 := cell_of hA2 2
      have ca3 := cell_of hA2 3
      have ca4 := cell_of hA2 4
      have ca5 := cell_of hA2 5
      simp at ca0 ca1 ca2 ca3 ca4 ca5
      go_wp2
      have he2 := he.under b2
      refine bodyPost_ret (v := .agg #[.int .i64 y.op, .int .i64 y.k, .int .i64 y.n, .string y.name, .slice y.aS y.nS y.cS, .slice y.aL y.nL y.cL]) (by simp [results, Tryz.results111, go_sem, ca0, ca1, ca2, ca3, ca4, ca5]) rfl ⟨y, rfl, ?_, ?_, ?_⟩
      · exact ((((((he2.set (by simp) _).set (by simp) _).set (by simp) _).set (by simp) _).set (by simp) _).set (by simp) _).wide (fun i hi _ => Nat.le_of_lt hi.1)
      · exact ((((((hrd.below b2).set (by simp; omega) (by simp; omega) _).set (by simp; omega) (by simp; omega) _).set (by simp; omega) (by simp; omega) _).set (by simp; omega) (by simp; omega) _).set (by simp; omega) (by simp; omega) _).set (by simp; omega) (by simp; omega) _
      · exact ((((((has.trans (aside b2) has.size).set (by simp) _).set (by simp) _).set (by simp) _).set (by simp) _).set (by simp) _).set (by simp) _
    | @step _ n' _ _ rr _ kk hk hk0 hlt hG' hrem' =>
      have hkf : ((_ : Int) == 0) = false := beq_eq_false_iff_ne.2 hk0
      go_wp2_with fail
      refine (between_any hrd a c).mono ?_
      rintro r w2 ⟨rfl, b2⟩
      rw [hk]
      go_wp2_with fail
      refine (step_any (hrd.below b2) hlt).mono ?_
      rintro r w3 ⟨rfl, h3, a3⟩
      have hbB := lt_of hB
      have hA3 := a3.keep ((aside b2 (S := [])).keep hA (lt_of hA) (by simp)) (Nat.lt_of_lt_of_le (lt_of hA) b2.size) (by simp; omega)
      have hB3 := a3.keep ((aside b2 (S := [])).keep hB (lt_of hB) (by simp)) (Nat.lt_of_lt_of_le (lt_of hB) b2.size) (by simp; omega)
      have he3 := (he.under b2).past a3 (fun i hi => by simp; omega)
      have A3 := (has.trans (aside b2) has.size).trans a3 (Nat.le_trans has.size b2.size)
      have hB3z := lt_of hB3
      clear hA hB he hrd has b2 a3
      have cb0 := cell_of hB3 0
      have cb1 := cell_of hB3 1
      have cb2 := cell_of hB3 2
      have cb3 := cell_of hB3 3
      have cb4 := cell_of hB3 4
      have cb5 := cell_of hB3 5
      simp at cb0 cb1 cb2 cb3 cb4 cb5
      go_wp2
      have hGr := hG'.2
      go_region_with (first
        | (with_reducible refine (hGr _ ?_).mono ?_
           first | exact h3 | exact h3.drew
           rintro r w4 ⟨x4, rfl, he4, h4, a4⟩
           have a4' : Aside [b] w3.heap.size w3 w4 := ⟨a4.os, a4.tape, a4.output, a4.size, a4.block⟩
           have hA4 := a4'.keep hA3 (lt_of hA3) (by simp; omega)
           have hB4 := a4'.keep hB3 (lt_of hB3) (by simp; omega)
           have z4 := a4'.size
           have hy4 := he3.past a4' (fun i hi => by simp; omega)
           have hx4 := he4.wide (ok' := fun i => w.heap.size < i ∧ i ≠ w1.heap.size) (fun i hi _ => by have : w3.heap.size ≤ i := hi; omega)
           have A4 := A3.trans a4' (by omega)
           have db0 := cell_of hB4 0
           have db1 := cell_of hB4 1
           have db2 := cell_of hB4 2
           have db3 := cell_of hB4 3
           have db4 := cell_of hB4 4
           have db5 := cell_of hB4 5
           simp at db0 db1 db2 db3 db4 db5)
        | (go_at_call 114
           refine (pair_any _ hy4 hx4 (fun i hi => by omega)).mono ?_
           rintro r w5 ⟨z, rfl, hez, b5⟩
           have hA5 := (aside b5 (S := [])).keep hA4 (lt_of hA4) (by simp)
           have hB5 := (aside b5 (S := [])).keep hB4 (lt_of hB4) (by simp)
           have fb5 := fun o => free_of hB5 o
           have gb0 := cell_of hB5 0
           have gb1 := cell_of hB5 1
           have gb2 := cell_of hB5 2
           have gb3 := cell_of hB5 3
           have gb4 := cell_of hB5 4
           have gb5 := cell_of hB5 5
           simp at gb0 gb1 gb2 gb3 gb4 gb5))
      all_goals
        go_wp2
        go_roundg (gk - 1)
        case measure => omega
        case rel =>
          have hn' := hG'.1
          refine ⟨n', z, _, by omega, hrem', ?_, ?_, ?_, ?_, ?_⟩
          · exact (((((hez.set (by simp) _).set (by simp) _).set (by simp) _).set (by simp) _).set (by simp) _).set (by simp) _
          · exact ((((((h4.below b5).set (by simp; omega) (by simp; omega) _).set (by simp; omega) (by simp; omega) _).set (by simp; omega) (by simp; omega) _).set (by simp; omega) (by simp; omega) _).set (by simp; omega) (by simp; omega) _).set (by simp; omega) (by simp; omega) _
          · exact ((((((A4.trans (aside b5) A4.size).set (by simp; omega) _).set (by simp; omega) _).set (by simp; omega) _).set (by simp; omega) _).set (by simp; omega) _).set (by simp; omega) _
          · exact keep_set (keep_set (keep_set (keep_set (keep_set (keep_set hA5 (by simp; omega) _) (by simp; omega) _) (by simp; omega) _) (by simp; omega) _) (by simp; omega) _) (by simp; omega) _
          · have := set_in (set_in (set_in (set_in (set_in (set_in hB5 0 (.int .i64 z.op)) 1 (.int .i64 z.k)) 2 (.int .i64 z.n)) 3 (.string z.name)) 4 (.slice z.aS z.nS z.cS)) 5 (.slice z.aL z.nL z.cL)
            simpa using this

/-- what fromLeft reads by F is what the function of its name reads -/
theorem gives_of_call {F b g cap : Nat} {L : List Tk.Tok} {len op nx n1 : Nat} {e : Ex} (h1 : nx ≤ n1) (h : ∀ w, Rd w b g cap L len nx op → Calls Tryz.prog F #[.pointer (some ⟨b, 0, none⟩)] w fun r w' => ∃ x : ExV,
    r = .returned (.agg #[.int .i64 x.op, .int .i64 x.k, .int .i64 x.n, .string x.name, .slice x.aS x.nS x.cS, .slice x.aL x.nL x.cL]) ∧ HEx (fun i => w.heap.size ≤ i) w' x.cells e ∧ Rd w' b g cap L len n1 op ∧ Aside [b] w.heap.size w w') : Gives F b g cap L len op nx n1 e := ⟨h1, h⟩

theorem Rem.le {F b g cap : Nat} {L : List Tk.Tok} {len op : Nat} {a c : Int} {n m : Nat} {e x : Ex} (h : Rem F b g cap L len op a c n e m x) : n ≤ m := by
  induction h with
  | stop _ => exact Nat.le_refl _
  | step _ _ _ hG _ ih => have := hG.1; omega

end Go.Proofs.YtplofgkofkjhdaaGreatDoor
