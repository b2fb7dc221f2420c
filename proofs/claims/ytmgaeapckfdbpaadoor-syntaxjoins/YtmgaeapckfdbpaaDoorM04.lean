/-
  DERIVED. THE WALKS of the reader's expressions, where all goes well: operators, and operations of one kind from the left.
-/
import Derived.Test.YtmgaeapckfdbpaaDoorM03
import Derived.Deep.RegionWith
import Derived.Deep.LoopGhost
namespace Go.Proofs.YtmgaeapckfdbpaaDoor
open Go.RowKit Go.IntWalk
set_option linter.unusedVariables false
set_option linter.unusedSimpArgs false
set_option maxRecDepth 100000

/-- the operator that a text is -/
def signOp (t : List UInt8) : Int :=
  if t == [43] then 1 else if t == [45] then 2 else if t == [42] then 3 else if t == [47] then 4 else if t == [37] then 5 else
  if t == [60] then 8 else if t == [61, 61] then 9 else if t == [97, 110, 100] then 10 else if t == [111, 114] then 11 else if t == [120, 111, 114] then 12 else 0

set_option maxHeartbeats 2000000 in
theorem signOp_any (t : List UInt8) (w : World) : Calls Tryd.prog 81 #[.string (str t)] w fun e w' => e = .returned (.int .i64 (signOp t)) ∧ w' = w := by
  obtain ⟨r, hr⟩ : ∃ r, r = signOp t := ⟨_, rfl⟩
  rw [← hr]
  have HR := hide hr
  clear hr
  have ht : (str t).toList = t := by rw [Lib.toList_data]; rfl
  go_enter Tryd.func81, Tryd.ntmps81
  go_wp2
  all_goals go_ret
  all_goals refine ⟨ret_int ?_, rfl⟩
  all_goals (have hr := HR.out; simp [signOp, *] at hr ⊢)
  all_goals (try simp_all)

/-- .. if it is one of those from a to c; else 0 -/
def btw (a c : Int) (t : List UInt8) : Int := if signOp t < a ∨ c < signOp t then 0 else signOp t

set_option maxHeartbeats 2000000 in
theorem between_any {w : World} {b g cap : Nat} {L : List Tk.Tok} {len nx op : Nat} (h : Rd w b g cap L len nx op) (a c : Int) :
    Calls Tryd.prog 78 #[.pointer (some ⟨b, 0, none⟩), .int .i64 a, .int .i64 c] w fun e w' => e = .returned (.int .i64 (btw a c (peekT L len nx).text)) ∧ Below w.heap.size w w' := by
  have hp := @peek_any _ _ _ _ _ _ _ _ h
  obtain ⟨t, ht⟩ : ∃ t, t = peekT L len nx := ⟨_, rfl⟩
  rw [← ht] at hp ⊢
  unfold tokV at hp
  clear h ht
  have hf := fun x w => tok_field2 t x w
  obtain ⟨r, hr⟩ : ∃ r, r = btw a c t.text := ⟨_, rfl⟩
  rw [← hr]
  obtain ⟨s, hs⟩ : ∃ s, s = signOp t.text := ⟨_, rfl⟩
  unfold btw at hr
  rw [← hs] at hr
  have HR := hide hr
  clear hr
  go_enter Tryd.func78, Tryd.ntmps78
  go_wp2_with fail
  refine hp.mono ?_
  rintro e w' ⟨rfl, hb⟩
  go_wp2_with fail
  refine (signOp_any _ _).mono ?_
  rintro e w'' ⟨rfl, rfl⟩
  rw [← hs]
  clear hs
  go_wp2
  all_goals go_ret
  all_goals refine ⟨ret_int ?_, hb⟩
  all_goals (have hr := HR.out; simp_all)
  all_goals omega

/-- F reads an expression e from token nx to token n1. -/
def Gives (F b g cap : Nat) (L : List Tk.Tok) (len op nx n1 : Nat) (e : Ex) : Prop :=
  nx ≤ n1 ∧ ∀ w, Rd w b g cap L len nx op → Calls Tryd.prog F #[.pointer (some ⟨b, 0, none⟩)] w fun r w' => ∃ x : ExV,
    r = .returned (.agg #[.int .i64 x.op, .int .i64 x.k, .int .i64 x.n, .string x.name, .slice x.aS x.nS x.cS, .slice x.aL x.nL x.cL]) ∧ HEx (fun i => w.heap.size ≤ i) w' x.cells e ∧ Rd w' b g cap L len n1 op ∧ Aside [b] w.heap.size w w'

/-- What is left to do at token n with e so far ends at token m with x. -/
inductive Rem (F b g cap : Nat) (L : List Tk.Tok) (len op : Nat) (a c : Int) : Nat → Ex → Nat → Ex → Prop
  | stop {n : Nat} {e : Ex} : btw a c (peekT L len n).text = 0 → Rem F b g cap L len op a c n e n e
  | step {n n' m : Nat} {e r x : Ex} {k : Int} : btw a c (peekT L len n).text = k → k ≠ 0 → n < L.length → Gives F b g cap L len op (n + 1) n' r → Rem F b g cap L len op a c n' (.mk 5 k 0 ⟨#[]⟩ [] [e, r]) m x → Rem F b g cap L len op a c n e m x

set_option maxHeartbeats 2000000 in
theorem pair_any {w : World} {ok : Nat → Prop} {x y : ExV} {e f : Ex} (k : Int) (hx : HEx ok w x.cells e) (hy : HEx ok w y.cells f) (hok : ∀ i, w.heap.size ≤ i → ok i) :
    Calls Tryd.prog 79 #[.int .i64 k, .agg #[.int .i64 x.op, .int .i64 x.k, .int .i64 x.n, .string x.name, .slice x.aS x.nS x.cS, .slice x.aL x.nL x.cL], .agg #[.int .i64 y.op, .int .i64 y.k, .int .i64 y.n, .string y.name, .slice y.aS y.nS y.cS, .slice y.aL y.nL y.cL]] w fun r w' => ∃ z : ExV,
      r = .returned (.agg #[.int .i64 z.op, .int .i64 z.k, .int .i64 z.n, .string z.name, .slice z.aS z.nS z.cS, .slice z.aL z.nL z.cL]) ∧ HEx ok w' z.cells (.mk 5 k 0 ⟨#[]⟩ [] [e, f]) ∧ Below w.heap.size w w' := by
  go_enter Tryd.func79, Tryd.ntmps79
  go_wp2
  obtain ⟨W, hW⟩ : ∃ W, W = (((w.alloc (Obj.cells #[.int .i64 x.op, .int .i64 x.k, .int .i64 x.n, .string x.name, .slice x.aS x.nS x.cS, .slice x.aL x.nL x.cL] 46 (0, 0))).alloc (Obj.cells #[.int .i64 y.op, .int .i64 y.k, .int .i64 y.n, .string y.name, .slice y.aS y.nS y.cS, .slice y.aL y.nL y.cL] 46 (0, 0))).alloc
      (Obj.cells #[.int .i64 5, .int .i64 k, .int .i64 0, .string ⟨#[]⟩, .slice none 0 0, .slice (some ⟨w.heap.size + 1 + 1 + 1, 0, none⟩) 2 2] 46 (0, 0))) := ⟨_, rfl⟩
  have hz : W.heap.size = w.heap.size + 1 + 1 + 1 := by rw [hW]; simp
  have hbW : Below w.heap.size w W := by rw [hW]; exact (((Below.refl _ w).alloc (Nat.le_refl _) _).alloc (by simp) _).alloc (by simp; omega) _
  have hc : W.heap[w.heap.size + 1 + 1]? = some (.cells #[.int .i64 5, .int .i64 k, .int .i64 0, .string ⟨#[]⟩, .slice none 0 0, .slice (some ⟨w.heap.size + 1 + 1 + 1, 0, none⟩) 2 2] 46 (0, 0)) := by
    rw [hW]
    have := heap_new ((w.alloc (Obj.cells #[.int .i64 x.op, .int .i64 x.k, .int .i64 x.n, .string x.name, .slice x.aS x.nS x.cS, .slice x.aL x.nL x.cL] 46 (0, 0))).alloc (Obj.cells #[.int .i64 y.op, .int .i64 y.k, .int .i64 y.n, .string y.name, .slice y.aS y.nS y.cS, .slice y.aL y.nL y.cL] 46 (0, 0))) (Obj.cells #[.int .i64 5, .int .i64 k, .int .i64 0, .string ⟨#[]⟩, .slice none 0 0, .slice (some ⟨w.heap.size + 1 + 1 + 1, 0, none⟩) 2 2] 46 (0, 0))
    simpa using this
  rw [← hW]
  have hp := HEx.pair k (hx.under hbW) (hy.under hbW) 46 (hok _ (by omega))
  rw [hz] at hp
  obtain ⟨W', hW'⟩ : ∃ W', W' = W.alloc (Obj.cells #[.int .i64 x.op, .int .i64 x.k, .int .i64 x.n, .string x.name, .slice x.aS x.nS x.cS, .slice x.aL x.nL x.cL, .int .i64 y.op, .int .i64 y.k, .int .i64 y.n, .string y.name, .slice y.aS y.nS y.cS, .slice y.aL y.nL y.cL] 46 (0, 0)) := ⟨_, rfl⟩
  have hb' : Below w.heap.size w W' := by rw [hW']; exact hbW.alloc (by omega) _
  have hc' : W'.heap[w.heap.size + 1 + 1]? = some (.cells #[.int .i64 5, .int .i64 k, .int .i64 0, .string ⟨#[]⟩, .slice none 0 0, .slice (some ⟨w.heap.size + 1 + 1 + 1, 0, none⟩) 2 2] 46 (0, 0)) := by rw [hW']; exact keep_alloc hc _
  rw [← hW'] at hp ⊢
  have c0 := cell_of hc' 0
  have c1 := cell_of hc' 1
  have c2 := cell_of hc' 2
  have c3 := cell_of hc' 3
  have c4 := cell_of hc' 4
  have c5 := cell_of hc' 5
  simp at c0 c1 c2 c3 c4 c5
  exact bodyPost_ret (v := .agg #[.int .i64 5, .int .i64 k, .int .i64 0, .string ⟨#[]⟩, .slice none 0 0, .slice (some ⟨w.heap.size + 1 + 1 + 1, 0, none⟩) 2 2]) (by simp [results, Tryd.results79, go_sem, c0, c1, c2, c3, c4, c5]) rfl ⟨⟨5, k, 0, ⟨#[]⟩, none, 0, 0, some ⟨w.heap.size + 1 + 1 + 1, 0, none⟩, 2, 2⟩, rfl, hp, hb'⟩

set_option maxHeartbeats 8000000 in
theorem fromLeft_ok {F b g cap : Nat} {L : List Tk.Tok} {len op nx n1 m : Nat} {e0 x : Ex} {a c : Int} (hG : Gives F b g cap L len op nx n1 e0) (hR : Rem F b g cap L len op a c n1 e0 m x) (hent : ∀ args w, (callFunc F args).run Tryd.prog w = .ok (.enter F args) w) {w : World} (h : Rd w b g cap L len nx op) :
    Calls Tryd.prog 76 #[.pointer (some ⟨b, 0, none⟩), .int .i64 a, .int .i64 c, .func (.func F) #[.pointer (some ⟨b, 0, none⟩)] #[]] w fun r w' => ∃ x' : ExV,
      r = .returned (.agg #[.int .i64 x'.op, .int .i64 x'.k, .int .i64 x'.n, .string x'.name, .slice x'.aS x'.nS x'.cS, .slice x'.aL x'.nL x'.cL]) ∧ HEx (fun i => w.heap.size ≤ i) w' x'.cells x ∧ Rd w' b g cap L len m op ∧ Aside [b] w.heap.size w w' := by
  have hb := h.bb
  have hg := h.gb
  go_enter Tryd.func76, Tryd.ntmps76
  go_wp2_with fail
  refine (hG.2 _ (h.alloc _)).mono ?_
  rintro r w1 ⟨x0, rfl, he1, h1, a1⟩
  have z1 : w.heap.size + 1 ≤ w1.heap.size := by simpa using a1.size
  have hA1 := a1.keep (heap_new w _) (by simp) (by simp; omega)
  have A1 := ((Aside.refl (S := [b]) (B := w.heap.size) w).alloc (Nat.le_refl _) _).trans a1 (by simp)
  clear a1
  go_wp2
  go_loopg [10] L.length (fun k v wr => ∃ (n : Nat) (y : ExV) (e : Ex), L.length ≤ n + k ∧ Rem F b g cap L len op a c n e m x ∧ HEx (fun i => w.heap.size < i ∧ i ≠ w1.heap.size) wr y.cells e ∧ Rd wr b g cap L len n op ∧ Aside [b] w.heap.size w wr ∧
      wr.heap[w.heap.size]? = some (.cells #[.int .i64 0, .int .i64 0, .int .i64 0, .string ⟨#[]⟩, .slice none 0 0, .slice none 0 0] 46 (0, 0)) ∧
      wr.heap[w1.heap.size]? = some (.cells #[.int .i64 y.op, .int .i64 y.k, .int .i64 y.n, .string y.name, .slice y.aS y.nS y.cS, .slice y.aL y.nL y.cL] 46 (0, 0)))
  case atStart => exact ⟨n1, x0, e0, by omega, hR, (he1.wide (ok' := fun i => w.heap.size < i ∧ i ≠ w1.heap.size) (fun i hi hl => ⟨by simp at hi; omega, by omega⟩)).under ((Below.refl _ w1).alloc (Nat.le_refl _) _), h1.alloc _, A1.alloc (by omega) _, keep_alloc hA1 _, heap_new _ _⟩
  case round => 
    obtain ⟨n, y, e, hn, hrem, he, hrd, has, hA, hB⟩ := hrel
    cases hrem with
    | stop hz =>
      go_wp2_with fail
      refine (between_any hrd a c).mono ?_
      rintro r w2 ⟨rfl, b2⟩
      rw [hz]
      have cb0 := cell_of ((aside b2 (S := [])).keep hB (lt_of hB) (by simp)) 0
      have cb1 := cell_of ((aside b2 (S := [])).keep hB (lt_of hB) (by simp)) 1
      have cb2 := cell_of ((aside b2 (S := [])).keep hB (lt_of hB) (by simp)) 2
      have cb3 := cell_of ((aside b2 (S := [])).keep hB (lt_of hB) (by simp)) 3
      have cb4 := cell_of ((aside b2 (S := [])).keep hB (lt_of hB) (by simp)) 4
      have cb5 := cell_of ((aside b2 (S := [])).keep hB (lt_of hB) (by simp)) 5
      simp at cb0 cb1 cb2 cb3 cb4 cb5
      have hA2 := (aside b2 (S := [])).keep hA (lt_of hA) (by simp)
      have fa := fun o => free_of hA2 o
      have ca0 := cell_of hA2 0
      have ca1 := cell_of hA2 1
      have ca2 := cell_of hA2 2
      have ca3 := cell_of hA2 3
      have ca4 := cell_of hA2 4
      have ca5 := cell_of hA2 5
      simp at ca0 ca1 ca2 ca3 ca4 ca5
      go_wp2
      have he2 := he.under b2
      refine bodyPost_ret (v := .agg #[.int .i64 y.op, .int .i64 y.k, .int .i64 y.n, .string y.name, .slice y.aS y.nS y.cS, .slice y.aL y.nL y.cL]) (by simp [results, Tryd.results76, go_sem, ca0, ca1, ca2, ca3, ca4, ca5]) rfl ⟨y, rfl, ?_, ?_, ?_⟩
      · exact ((((((he2.set (by simp) _).set (by simp) _).set (by simp) _).set (by simp) _).set (by simp) _).set (by simp) _).wide (fun i hi _ => Nat.le_of_lt hi.1)
      · exact ((((((hrd.below b2).set (by simp; omega) (by simp; omega) _).set (by simp; omega) (by simp; omega) _).set (by simp; omega) (by simp; omega) _).set (by simp; omega) (by simp; omega) _).set (by simp; omega) (by simp; omega) _).set (by simp; omega) (by simp; omega) _
      · exact ((((((has.trans (aside b2) has.size).set (by simp) _).set (by simp) _).set (by simp) _).set (by simp) _).set (by simp) _).set (by simp) _
    | @step _ n' _ _ rr _ kk hk hk0 hlt hG' hrem' =>
      have hkf : ((_ : Int) == 0) = false := beq_eq_false_iff_ne.2 hk0
      go_wp2_with fail
      refine (between_any hrd a c).mono ?_
      rintro r w2 ⟨rfl, b2⟩
      rw [hk]
      go_wp2_with fail
      refine (step_any (hrd.below b2) hlt).mono ?_
      rintro r w3 ⟨rfl, h3, a3⟩
      have hbB := lt_of hB
      have hA3 := a3.keep ((aside b2 (S := [])).keep hA (lt_of hA) (by simp)) (Nat.lt_of_lt_of_le (lt_of hA) b2.size) (by simp; omega)
      have hB3 := a3.keep ((aside b2 (S := [])).keep hB (lt_of hB) (by simp)) (Nat.lt_of_lt_of_le (lt_of hB) b2.size) (by simp; omega)
      have he3 := (he.under b2).past a3 (fun i hi => by simp; omega)
      have A3 := (has.trans (aside b2) has.size).trans a3 (Nat.le_trans has.size b2.size)
      have hB3z := lt_of hB3
      clear hA hB he hrd has b2 a3
      have cb0 := cell_of hB3 0
      have cb1 := cell_of hB3 1
      have cb2 := cell_of hB3 2
      have cb3 := cell_of hB3 3
      have cb4 := cell_of hB3 4
      have cb5 := cell_of hB3 5
      simp at cb0 cb1 cb2 cb3 cb4 cb5
      go_wp2
      have hGr := hG'.2
      go_region_with (first
        | (with_reducible refine (hGr _ ?_).mono ?_
           first | exact h3 | exact h3.drew
           rintro r w4 ⟨x4, rfl, he4, h4, a4⟩
           have a4' : Aside [b] w3.heap.size w3 w4 := ⟨a4.os, a4.tape, a4.output, a4.size, a4.block⟩
           have hA4 := a4'.keep hA3 (lt_of hA3) (by simp; omega)
           have hB4 := a4'.keep hB3 (lt_of hB3) (by simp; omega)
           have z4 := a4'.size
           have hy4 := he3.past a4' (fun i hi => by simp; omega)
           have hx4 := he4.wide (ok' := fun i => w.heap.size < i ∧ i ≠ w1.heap.size) (fun i hi _ => by have : w3.heap.size ≤ i := hi; omega)
           have A4 := A3.trans a4' (by omega)
           have db0 := cell_of hB4 0
           have db1 := cell_of hB4 1
           have db2 := cell_of hB4 2
           have db3 := cell_of hB4 3
           have db4 := cell_of hB4 4
           have db5 := cell_of hB4 5
           simp at db0 db1 db2 db3 db4 db5)
        | (go_at_call 79
           refine (pair_any _ hy4 hx4 (fun i hi => by omega)).mono ?_
           rintro r w5 ⟨z, rfl, hez, b5⟩
           have hA5 := (aside b5 (S := [])).keep hA4 (lt_of hA4) (by simp)
           have hB5 := (aside b5 (S := [])).keep hB4 (lt_of hB4) (by simp)
           have fb5 := fun o => free_of hB5 o
           have gb0 := cell_of hB5 0
           have gb1 := cell_of hB5 1
           have gb2 := cell_of hB5 2
           have gb3 := cell_of hB5 3
           have gb4 := cell_of hB5 4
           have gb5 := cell_of hB5 5
           simp at gb0 gb1 gb2 gb3 gb4 gb5))
      all_goals
        go_wp2
        go_roundg (gk - 1)
        case measure => omega
        case rel =>
          have hn' := hG'.1
          refine ⟨n', z, _, by omega, hrem', ?_, ?_, ?_, ?_, ?_⟩
          · exact (((((hez.set (by simp) _).set (by simp) _).set (by simp) _).set (by simp) _).set (by simp) _).set (by simp) _
          · exact ((((((h4.below b5).set (by simp; omega) (by simp; omega) _).set (by simp; omega) (by simp; omega) _).set (by simp; omega) (by simp; omega) _).set (by simp; omega) (by simp; omega) _).set (by simp; omega) (by simp; omega) _).set (by simp; omega) (by simp; omega) _
          · exact ((((((A4.trans (aside b5) A4.size).set (by simp; omega) _).set (by simp; omega) _).set (by simp; omega) _).set (by simp; omega) _).set (by simp; omega) _).set (by simp; omega) _
          · exact keep_set (keep_set (keep_set (keep_set (keep_set (keep_set hA5 (by simp; omega) _) (by simp; omega) _) (by simp; omega) _) (by simp; omega) _) (by simp; omega) _) (by simp; omega) _
          · have := set_in (set_in (set_in (set_in (set_in (set_in hB5 0 (.int .i64 z.op)) 1 (.int .i64 z.k)) 2 (.int .i64 z.n)) 3 (.string z.name)) 4 (.slice z.aS z.nS z.cS)) 5 (.slice z.aL z.nL z.cL)
            simpa using this

/-- what fromLeft reads by F is what the function of its name reads -/
theorem gives_of_call {F b g cap : Nat} {L : List Tk.Tok} {len op nx n1 : Nat} {e : Ex} (h1 : nx ≤ n1) (h : ∀ w, Rd w b g cap L len nx op → Calls Tryd.prog F #[.pointer (some ⟨b, 0, none⟩)] w fun r w' => ∃ x : ExV,
    r = .returned (.agg #[.int .i64 x.op, .int .i64 x.k, .int .i64 x.n, .string x.name, .slice x.aS x.nS x.cS, .slice x.aL x.nL x.cL]) ∧ HEx (fun i => w.heap.size ≤ i) w' x.cells e ∧ Rd w' b g cap L len n1 op ∧ Aside [b] w.heap.size w w') : Gives F b g cap L len op nx n1 e := ⟨h1, h⟩

theorem Rem.le {F b g cap : Nat} {L : List Tk.Tok} {len op : Nat} {a c : Int} {n m : Nat} {e x : Ex} (h : Rem F b g cap L len op a c n e m x) : n ≤ m := by
  induction h with
  | stop _ => exact Nat.le_refl _
  | step _ _ _ hG _ ih => have := hG.1; omega

end Go.Proofs.YtmgaeapckfdbpaaDoor


/-
  DERIVED. What the document makes of a row of tokens: a program, or the first fault from the front.
-/
namespace Go.Proofs.YtmgaeapckfdbpaaDoor
set_option linter.unusedVariables false

/-- a thing and the number of the token behind it; or a fault's code and place -/
inductive Res (α : Type) where
  | ok (v : α) (n : Nat)
  | err (c a : Nat)
def Res.bind {α β : Type} : Res α → (α → Nat → Res β) → Res β
  | .ok v n, k => k v n
  | .err c a, _ => .err c a

/-- what came in: the tokens and the text's length -/
structure Inp where
  L : List Tk.Tok
  len : Nat
def Inp.pk (I : Inp) (n : Nat) : Tk.Tok := peekT I.L I.len n

namespace Ps
def sees (I : Inp) (s : List UInt8) (n : Nat) : Bool := (I.pk n).text == s
def refC (I : Inp) (n : Nat) : Nat := if (I.pk n).kind = 0 then 5 else 4
def refuse {α : Type} (I : Inp) (n : Nat) : Res α := .err (refC I n) (I.pk n).place
def need (I : Inp) (s : List UInt8) (n : Nat) : Res Unit := if sees I s n = true then .ok () (n + 1) else refuse I n
def name (I : Inp) (n : Nat) : Res ByteArray := if (I.pk n).kind = 2 then .ok (str (I.pk n).text) (n + 1) else refuse I n

/-- things with commas between, so many more at most; what came so far -/
def row {α : Type} (I : Inp) (read : Nat → Res α) : Nat → List α → Nat → Res (List α)
  | 0, _, n => .err 7 (I.pk n).place
  | f + 1, acc, n => (read n).bind fun v n1 => if sees I [44] n1 = true then row I read f (acc ++ [v]) (n1 + 1) else .ok (acc ++ [v]) n1

def sg (minus : Bool) (x : Int) : Int := if minus = true then RowKit.wrap64 (-x) else x
def term (I : Inp) (minus : Bool) (n : Nat) : Res Tm :=
  if (I.pk n).kind = 3 then
    if sees I [42] (n + 1) = true then (name I (n + 2)).bind fun s n1 => .ok (sg minus (I.pk n).n, s) n1 else .ok (sg minus (I.pk n).n, ⟨#[]⟩) (n + 1)
  else (name I n).bind fun s n1 => .ok (sg minus 1, s) n1
/-- the terms behind the first ones, so many more at most -/
def terms (I : Inp) : Nat → List Tm → Nat → Res (List Tm)
  | 0, acc, n => if sees I [43] n = true ∨ sees I [45] n = true then .err 7 (I.pk n).place else .ok acc n
  | f + 1, acc, n => if sees I [43] n = true ∨ sees I [45] n = true then (term I (sees I [45] n) (n + 1)).bind fun t n1 => terms I f (acc ++ [t]) n1 else .ok acc n
def size (I : Inp) (n : Nat) : Res (List Tm) :=
  (term I (sees I [45] n) (if sees I [45] n = true then n + 1 else n)).bind fun t n1 => terms I 29 [t] n1

def declN (I : Inp) (s : ByteArray) (e : Int) (n : Nat) : Res De := if sees I [94] n = true then (size I (n + 1)).bind fun z n1 => .ok ⟨s, e, z⟩ n1 else .ok ⟨s, e, []⟩ n
def decl (I : Inp) (n : Nat) : Res De :=
  (name I n).bind fun s n1 => (need I [58] n1).bind fun _ n2 =>
    if sees I [105, 110, 116] n2 = true then declN I s 105 (n2 + 1) else if sees I [98, 111, 111, 108] n2 = true then declN I s 98 (n2 + 1) else refuse I n2

/-- operations of one kind from the left: the operators are those from a to c -/
def more (I : Inp) (R : Nat → Res Ex) (a c : Int) : Nat → Ex → Nat → Res Ex
  | 0, e, n => .ok e n
  | f + 1, e, n => if btw a c (I.pk n).text = 0 then .ok e n else (R (n + 1)).bind fun r n1 => more I R a c f (.mk 5 (btw a c (I.pk n).text) 0 ⟨#[]⟩ [] [e, r]) n1
def fromLeft (I : Inp) (R : Nat → Res Ex) (a c : Int) (n : Nat) : Res Ex := (R n).bind fun e n1 => more I R a c (I.L.length - n1) e n1
def cmp (I : Inp) (R : Nat → Res Ex) (n : Nat) : Res Ex :=
  (R n).bind fun e n1 => if btw 8 9 (I.pk n1).text = 0 then .ok e n1 else (R (n1 + 1)).bind fun r n2 => .ok (.mk 5 (btw 8 9 (I.pk n1).text) 0 ⟨#[]⟩ [] [e, r]) n2
def sum (I : Inp) (A : Nat → Res Ex) : Nat → Res Ex := fromLeft I (fromLeft I A 3 5) 1 2
/-- an expression, over what stands behind signs ahead -/
def exprOf (I : Inp) (A : Nat → Res Ex) : Nat → Res Ex := fromLeft I (fromLeft I (cmp I (sum I A)) 10 10) 11 12

/-- what opens something: 'none': too much is open -/
def opn (I : Inp) (J : Option (Nat → Res Ex)) (n : Nat) (k : (Nat → Res Ex) → Nat → Res Ex) : Res Ex :=
  match J with
  | none => .err 6 (I.pk n).place
  | some A => k A (n + 1)

/-- the operators' words -/
def words : List (List UInt8) := [[97, 100, 100], [115, 117, 98], [109, 117, 108], [100, 105, 118], [109, 111, 100], [109, 105, 110], [109, 97, 120], [108, 101, 115, 115], [101, 113], [97, 110, 100], [111, 114], [120, 111, 114], [110, 101, 103], [110, 111, 116]]
def wordAt (I : Inp) (n : Nat) : List (List UInt8) → Int → Option Int
  | [], _ => none
  | x :: xs, k => if sees I x n = true then some k else wordAt I n xs (k + 1)
def oper (I : Inp) (n : Nat) : Res Int := match wordAt I n words 1 with | some k => .ok k (n + 1) | none => refuse I n

/-- the parts of a form -/
inductive Pt where
  | part | size | oper | oneOrTwo
def Ex.addL (e : Ex) (x : Ex) : Ex := .mk e.op e.k e.n e.name e.S (e.L ++ [x])
def Ex.addS (e : Ex) (s : List Tm) : Ex := .mk e.op e.k e.n e.name (e.S ++ [s]) e.L
def Ex.setK (e : Ex) (k : Int) : Ex := .mk e.op k e.n e.name e.S e.L
def part (I : Inp) (E : Nat → Res Ex) (p : Pt) (e : Ex) (n : Nat) : Res Ex :=
  match p with
  | .part => (E n).bind fun x n1 => .ok (Ex.addL e x) n1
  | .size => (size I n).bind fun s n1 => .ok (Ex.addS e s) n1
  | .oper => (oper I n).bind fun k n1 => .ok (Ex.setK e k) n1
  | .oneOrTwo => (E n).bind fun x n1 => if sees I [44] n1 = true then (E (n1 + 1)).bind fun y n2 => .ok (Ex.addL (Ex.addL e x) y) n2 else .ok (Ex.addL e x) n1
/-- .. each but the first behind a comma -/
def parts (I : Inp) (E : Nat → Res Ex) : List Pt → Ex → Nat → Res Ex
  | [], e, n => .ok e n
  | p :: ps, e, n => (need I [44] n).bind fun _ n1 => (part I E p e n1).bind fun e1 n2 => parts I E ps e1 n2
def brackets (I : Inp) (E : Nat → Res Ex) (p : Pt) (ps : List Pt) (e : Ex) (n : Nat) : Res Ex :=
  (need I [40] n).bind fun _ n1 => (part I E p e n1).bind fun e1 n2 => (parts I E ps e1 n2).bind fun e2 n3 => (need I [41] n3).bind fun _ n4 => .ok e2 n4

def bare (op k : Int) : Ex := .mk op k 0 ⟨#[]⟩ [] []
def form (I : Inp) (J : Option (Nat → Res Ex)) (n : Nat) : Res Ex :=
  let go (op k : Int) (p : Pt) (ps : List Pt) : Res Ex := opn I J n fun A n1 => brackets I (exprOf I A) p ps (bare op k) n1
  if sees I [109, 105, 110] n = true then go 5 6 .part [.part]
  else if sees I [109, 97, 120] n = true then go 5 7 .part [.part]
  else if sees I [109, 97, 112] n = true then go 7 0 .oper [.oneOrTwo]
  else if sees I [102, 111, 108, 100] n = true then go 8 0 .oper [.part, .part]
  else if sees I [115, 99, 97, 110] n = true then go 9 0 .oper [.part, .part]
  else if sees I [102, 105, 108, 108] n = true then go 10 0 .part [.size]
  else if sees I [119, 105, 116, 104] n = true then go 12 0 .part [.part, .part]
  else if sees I [115, 108, 105, 99, 101] n = true then go 13 0 .part [.size, .size]
  else if sees I [99, 97, 116] n = true then go 14 0 .part [.part]
  else if sees I [112, 114, 101] n = true then go 15 0 .part [.part]
  else refuse I n

def bracketed (I : Inp) (E : Nat → Res Ex) (n : Nat) : Res Ex := (E n).bind fun e n1 => (need I [41] n1).bind fun _ n2 => .ok e n2
def choice (I : Inp) (E : Nat → Res Ex) (n : Nat) : Res Ex :=
  (E n).bind fun t n1 => (need I [116, 104, 101, 110] n1).bind fun _ n2 => (E n2).bind fun y n3 => (need I [101, 108, 115, 101] n3).bind fun _ n4 => (E n4).bind fun z n5 =>
    .ok (.mk 6 0 0 ⟨#[]⟩ [] [t, y, z]) n5
def unit (I : Inp) (J : Option (Nat → Res Ex)) (n : Nat) : Res Ex :=
  if (I.pk n).kind = 3 then .ok (.mk 1 0 (I.pk n).n ⟨#[]⟩ [] []) (n + 1)
  else if (I.pk n).kind = 2 then .ok (.mk 3 0 0 (str (I.pk n).text) [] []) (n + 1)
  else if sees I [116, 114, 117, 101] n = true then .ok (.mk 2 0 1 ⟨#[]⟩ [] []) (n + 1)
  else if sees I [102, 97, 108, 115, 101] n = true then .ok (.mk 2 0 0 ⟨#[]⟩ [] []) (n + 1)
  else if sees I [40] n = true then opn I J n fun A n1 => bracketed I (exprOf I A) n1
  else if sees I [105, 102] n = true then opn I J n fun A n1 => choice I (exprOf I A) n1
  else form I J n
def index (I : Inp) (E : Nat → Res Ex) (e : Ex) (n : Nat) : Res Ex :=
  (E n).bind fun x n1 => (need I [58] n1).bind fun _ n2 => (E n2).bind fun y n3 => (need I [93] n3).bind fun _ n4 => .ok (.mk 11 0 0 ⟨#[]⟩ [] [e, x, y]) n4
/-- the places behind a unit -/
def indices (I : Inp) (J : Option (Nat → Res Ex)) : Nat → Ex → Nat → Res Ex
  | 0, e, n => .ok e n
  | f + 1, e, n => if sees I [91] n = true then (opn I J n fun A n1 => index I (exprOf I A) e n1).bind fun e1 n1 => indices I J f e1 n1 else .ok e n
def signed (A : Nat → Res Ex) (k : Int) (n : Nat) : Res Ex := (A n).bind fun e n1 => .ok (.mk 4 k 0 ⟨#[]⟩ [] [e]) n1
def aheadS (I : Inp) (J : Option (Nat → Res Ex)) (n : Nat) : Res Ex :=
  if sees I [45] n = true then opn I J n fun A n1 => signed A 13 n1
  else if sees I [110, 111, 116] n = true then opn I J n fun A n1 => signed A 14 n1
  else (unit I J n).bind fun e n1 => indices I J (I.L.length - n1) e n1
/-- .. so much more may be opened -/
def ahead (I : Inp) : Nat → Nat → Res Ex
  | 0 => aheadS I none
  | d + 1 => aheadS I (some (ahead I d))
def expr (I : Inp) (d : Nat) : Nat → Res Ex := exprOf I (ahead I d)

mutual
def count : Ex → Nat
  | .mk _ _ _ _ _ L => 1 + countL L
def countL : List Ex → Nat
  | [] => 0
  | x :: xs => count x + countL xs
end
def whole (I : Inp) (n : Nat) : Res Ex := (expr I 60 n).bind fun e n1 => if 30 < count e then .err 7 (I.pk n).place else .ok e n1

def call (I : Inp) (at0 : Int) (l : List ByteArray) (n : Nat) : Res Eqn :=
  (need I [99, 97, 108, 108] n).bind fun _ n1 => (name I n1).bind fun s n2 =>
    (if sees I [60] n2 = true then (row I (size I) 3 [] (n2 + 1)).bind fun z n3 => (need I [62] n3).bind fun _ n4 => .ok z n4 else .ok [] n2).bind fun z n5 =>
    (need I [40] n5).bind fun _ n6 =>
    (if sees I [41] n6 = true then .ok [] (n6 + 1) else (row I (whole I) 30 [] n6).bind fun e n7 => (need I [41] n7).bind fun _ n8 => .ok e n8).bind fun e n9 =>
    .ok ⟨at0, l, s, z, e⟩ n9
def equation (I : Inp) (n : Nat) : Res Eqn :=
  (row I (name I) 30 [] n).bind fun l n1 => (need I [61] n1).bind fun _ n2 =>
    if l.length = 1 ∧ sees I [99, 97, 108, 108] n2 = false then (whole I n2).bind fun e n3 => .ok ⟨(I.pk n).place, l, ⟨#[]⟩, [], [e]⟩ n3 else call I (I.pk n).place l n2

/-- a line of a node: a local or an equation more -/
def line (I : Inp) (loc : List De) (eqs : List Eqn) (n : Nat) : Res (List De × List Eqn) :=
  (if sees I [118, 97, 114] n = true then if 30 ≤ loc.length then .err 7 (I.pk (n + 1)).place else (decl I (n + 1)).bind fun d n1 => .ok (loc ++ [d], eqs) n1
   else if (I.pk n).kind = 2 ∧ 60 ≤ eqs.length then .err 7 (I.pk n).place else (equation I n).bind fun q n1 => .ok (loc, eqs ++ [q]) n1).bind fun p n2 =>
  (need I [59] n2).bind fun _ n3 => .ok p n3
def lines (I : Inp) : Nat → List De → List Eqn → Nat → Res (List De × List Eqn)
  | 0, loc, eqs, n => .ok (loc, eqs) (n + 1)
  | f + 1, loc, eqs, n => if sees I [125] n = true then .ok (loc, eqs) (n + 1) else (line I loc eqs n).bind fun p n1 => lines I f p.1 p.2 n1
def node (I : Inp) (n : Nat) : Res Nd :=
  (need I [110, 111, 100, 101] n).bind fun _ n1 => (name I n1).bind fun s n2 =>
    (if sees I [60] n2 = true then (row I (name I) 3 [] (n2 + 1)).bind fun z n3 => (need I [62] n3).bind fun _ n4 => .ok z n4 else .ok [] n2).bind fun z n5 =>
    (need I [40] n5).bind fun _ n6 =>
    (if sees I [41] n6 = true then .ok [] (n6 + 1) else (row I (decl I) 30 [] n6).bind fun l n7 => (need I [41] n7).bind fun _ n8 => .ok l n8).bind fun inn n9 =>
    (need I [45, 62] n9).bind fun _ n10 => (need I [40] n10).bind fun _ n11 => (row I (decl I) 30 [] n11).bind fun out n12 => (need I [41] n12).bind fun _ n13 => (need I [123] n13).bind fun _ n14 =>
    (lines I (I.L.length - n14 + 1) [] [] n14).bind fun p n15 => .ok ⟨s, (I.pk n).place, z, inn, out, p.1, p.2⟩ n15
/-- the nodes behind the first ones, so many more at most -/
def nodes (I : Inp) : Nat → List Nd → Nat → Res (List Nd)
  | 0, acc, n => if (I.pk n).kind = 0 then .ok acc n else if sees I [110, 111, 100, 101] n = true then .err 7 (I.pk n).place else refuse I n
  | f + 1, acc, n => if (I.pk n).kind = 0 then .ok acc n else (node I n).bind fun x n1 => nodes I f (acc ++ [x]) n1
def program (I : Inp) : Res (List Nd) := (node I 0).bind fun x n => nodes I 9 [x] n
end Ps

/-- what Parse makes of a text: nodes, or a fault -/
def parseT (t : List UInt8) : List Nd × Int × Int :=
  match Tk.scan t with
  | (L, c, a) => if c = 0 then match Ps.program ⟨L, t.length⟩ with | .ok l _ => (l, 0, 0) | .err c a => ([], c, a) else ([], c, a)

end Go.Proofs.YtmgaeapckfdbpaaDoor
