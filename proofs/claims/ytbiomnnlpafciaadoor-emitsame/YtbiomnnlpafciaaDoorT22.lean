import Derived.Test.YtbiomnnlpafciaaDoorT21
import Derived.WalkKit
import Derived.WalkSpells
import Derived.IntWalk
import Derived.Deep.Cut
import Derived.Deep.LoopGhost
import Derived.Laws.Cover1
import Derived.Lib.Hide
set_option linter.unusedVariables false
set_option linter.unusedSimpArgs false
set_option maxHeartbeats 64000000
set_option maxRecDepth 100000
namespace Go.Proofs.YtbiomnnlpafciaaDoor
open Go.RowKit Go.IntWalk
set_option linter.unusedVariables false
set_option linter.unusedSimpArgs false
theorem HPu.aside {ok : Nat → Prop} {w w' : World} {v : Value} {l : List Pu} (h : HPu ok w v l) {S : List Nat} (a : Aside S w.heap.size w w') (hok : ∀ i, ok i → i ∉ S) : HPu ok w' v l := h.keep a.size fun i hi hl => a.block i hl (hok i hi)
theorem ep_len (p : Pu) (r t : Int) : (Em.ep p r t).length ≤ 11 := by
  unfold Em.ep
  repeat' split
  all_goals simp
/-- in the midst of a tree's code -/
structure MidE (w : World) (cb k : Nat) (C0 : List Cd.In) (R0 : Int) (C1 : List Cd.In) (R1 : Int) (E : List Pu) (tn : Int) (i : Nat) (wr : World) : Prop where
  c : ∃ k' v' C R, CO wr cb k' v' C R ∧ (k' = k ∨ w.heap.size ≤ k') ∧ C.length ≤ C0.length + 11 * i ∧ C1 = C ++ Em.et (E.drop i) (2 + ((Lo.stk [] 0 E i).length : Int)) tn ∧ R1 = Em.rg R (Em.et (E.drop i) (2 + ((Lo.stk [] 0 E i).length : Int)) tn)
  a : Aside [cb, k] w.heap.size w wr
set_option maxHeartbeats 16000000 in
theorem addTree42_any {w : World} {cb k : Nat} {v : Value} {C : List Cd.In} {R : Int} (h : CO w cb k v C R) (hlen : C.length ≤ 700000) {okE : Nat → Prop} {aE : Option Addr} {cE : Nat} {E : List Pu} (hE : HPu okE w (.slice aE E.length cE) E) (hok : ∀ i, okE i → i ≠ cb ∧ i ≠ k) {c n tn : Int} (hf : Lo.Fit c n E) (ht : 0 ≤ tn) :
    Calls Tryd.prog 42 #[.pointer (some ⟨cb, 0, none⟩), .slice aE E.length cE, .int .i64 tn] w (CP w cb k (C ++ Em.et E 2 tn) (Em.rg R (Em.et E 2 tn))) := by
  obtain ⟨C1, hC1⟩ : ∃ x, x = C ++ Em.et E 2 tn := ⟨_, rfl⟩
  obtain ⟨R1, hR1⟩ : ∃ x, x = Em.rg R (Em.et E 2 tn) := ⟨_, rfl⟩
  rw [← hC1, ← hR1]
  have H0 : Hid (MidE w cb k C R C1 R1 E tn 0 w) := hide ⟨⟨k, v, C, R, h, .inl rfl, by omega, by rw [hC1, Lo.stk_zero]; simp, by rw [hR1, Lo.stk_zero]; simp⟩, Aside.refl _⟩
  have HE := hide hE
  have HOK := hide hok
  have HF := hide hf
  obtain ⟨m, hm⟩ : ∃ m, m = E.length := ⟨_, rfl⟩
  have hm24 : m ≤ 24 := by rw [hm]; exact hf.len
  rw [← hm]
  have HM := hide hm
  clear h hE hok hf hm hC1 hR1
  go_enter Tryd.func42, Tryd.ntmps42
  go_wp2_with fail
  go_loopg [6, 12] m (fun kz v6 v12 wr => ∃ (i : Nat) (fr : Int), i ≤ m ∧ kz = m - i ∧ v12 = .int .i64 (i : Nat) ∧ v6 = .int .i64 fr ∧ Hid (fr = 2 + ((Lo.stk [] 0 E i).length : Int)) ∧ Hid (MidE w cb k C R C1 R1 E tn i wr))
  case atStart => exact ⟨0, 2, Nat.zero_le _, rfl, rfl, rfl, hide (by rw [Lo.stk_zero]; rfl), H0⟩
  case round =>
    clear H0
    obtain ⟨i, fr, hi, rfl, rfl, rfl, HFR, H⟩ := hrel
    by_cases hlt : i < m
    case neg =>
      have hin : i = m := by omega
      subst hin
      have hz : E.drop i = [] := List.drop_of_length_le (by have := HM.out; omega)
      obtain ⟨⟨k', v', C', R', o1, o2, -, o4, o5⟩, a1⟩ := H.out
      rw [hz] at o4 o5
      simp only [Em.et, List.append_nil] at o4
      have o6 : R1 = R' := o5
      rw [← o4, ← o6] at o1
      have HP : Hid (CP w cb k C1 R1 (.returned (.tuple #[])) wr) := hide ⟨rfl, ⟨k', v', o1, o2⟩, a1⟩
      clear o1 o2 o4 o5 o6 a1 H hz HFR
      go_wp2
      exact bodyPost_end (v := .tuple #[]) (by simp [results, Tryd.results42]) rfl HP.out
    case pos =>
      obtain ⟨⟨k', v', C', R', o1, o2, o3, o4, o5⟩, a1⟩ := H.out
      have hil : i < E.length := by have := HM.out; omega
      have hE2 := HE.out.aside a1 (fun j hj => by have := HOK.out j hj; simp; exact this)
      obtain ⟨ao', cap', eqs, -, -, hat2⟩ := hE2.at
      injection eqs with q1 q2 q3
      subst q1
      obtain ⟨bb, oo, rfl, hb, e0, e1, e2, e3⟩ := hat2 i hil
      obtain ⟨f1, f2, f3⟩ := HF.out.at' [] 0 i hil
      have hstp := Em.stp_len (M := []) (k := 0) f1
      rw [← Lo.stk_succ [] 0 E hil] at hstp
      have hfr := HFR.out
      have htk := Lo.tk_nonneg (E[i]).op
      rw [List.drop_eq_getElem_cons hil, Em.et, ← hfr] at o4 o5
      have her : Em.er E[i] fr = 2 + ((Lo.stk [] 0 E (i + 1)).length : Int) := by unfold Em.er; omega
      rw [her] at o4 o5
      generalize E[i] = y at e0 e1 e2 e3 f1 hstp htk o4 o5
      obtain ⟨op, kk, vv, nn⟩ := y
      dsimp only at e0 e1 e2 e3 f1 hstp htk
      obtain ⟨r, hr⟩ : ∃ r, r = fr - Lo.tk op := ⟨_, rfl⟩
      have hr0 : 2 ≤ r ∧ r ≤ 26 := by omega
      have hnx : r + 1 = 2 + ((Lo.stk [] 0 E (i + 1)).length : Int) := by omega
      have hep := ep_len ⟨op, kk, vv, nn⟩ fr tn
      have HAdd : Hid (∀ W, Below wr.heap.size wr W → Calls Tryd.prog 71 #[.pointer (some ⟨cb, 0, none⟩), .agg #[.int .i64 op, .int .i64 kk, .int .i64 vv, .int .i64 nn], .int .i64 r, .int .i64 tn] W (CP W cb k' (C' ++ Em.ep ⟨op, kk, vv, nn⟩ fr tn) (Em.rg R' (Em.ep ⟨op, kk, vv, nn⟩ fr tn)))) := hide (fun W b => addPush71_any (o1.under b) (by omega) ⟨op, kk, vv, nn⟩ r fr tn (by dsimp only; omega) (by omega) ht)
      have HNX : Hid (∀ (w2 : World) (e : Ending), CP wr cb k' (C' ++ Em.ep ⟨op, kk, vv, nn⟩ fr tn) (Em.rg R' (Em.ep ⟨op, kk, vv, nn⟩ fr tn)) e w2 → MidE w cb k C R C1 R1 E tn (i + 1) w2) := hide (fun w2 e hcp => by
        obtain ⟨k2, v2, x1, x2⟩ := hcp.o
        refine ⟨⟨k2, v2, _, _, x1, next_own o2 x2 a1.size, by rw [List.length_append]; omega, ?_, ?_⟩, aside_next a1 o2 hcp.a⟩
        · rw [o4, List.append_assoc]
        · rw [o5, Em.rg_app])
      have HT := hide (fun W => taken70_any op kk vv nn W)
      have b4 : Below wr.heap.size wr (wr.alloc (.cells #[.int .i64 op, .int .i64 kk, .int .i64 vv, .int .i64 nn] 59 (0, 0))) := (Below.refl _ _).alloc (Nat.le_refl _) _
      have k4 := heap_new wr (.cells #[.int .i64 op, .int .i64 kk, .int .i64 vv, .int .i64 nn] 59 (0, 0))
      have u1 : wrap64 (fr - Lo.tk op) = r := (Em.small64 (by omega)).trans hr.symm
      have u3 : IntKind.i64.wrap (fr - Lo.tk op) = r := (i64_in _ (by omega)).trans hr.symm
      generalize Lo.tk op = tk0 at HT u1 u3
      have u2 : IntKind.i64.wrap (r + 1) = r + 1 := i64_in _ (by omega)
      have u4 : wrap64 (r + 1) = r + 1 := Em.small64 (by omega)
      have HNF := hide hnx
      clear o1 o2 o3 o4 o5 a1 hE2 hat2 q2 q3 f1 f2 f3 hstp hfr htk her hr hnx hep H HFR
      go_upto_region 4 with fail
      generalize wr.alloc (.cells #[.int .i64 op, .int .i64 kk, .int .i64 vv, .int .i64 nn] 59 (0, 0)) = w4 at b4 k4 ⊢
      have p0 := cell_of k4 0
      have p1 := cell_of k4 1
      have p2 := cell_of k4 2
      have p3 := cell_of k4 3
      simp at p0 p1 p2 p3
      clear e0 e1 e2 e3
      go_wp2_with fail
      refine (HT.out _).mono ?_
      rintro e w5 ⟨rfl, b5⟩
      have k5 := (b5.block _ (lt_of k4)).trans k4
      have B5 := b4.trans (b5.mono b4.size)
      have p0 := cell_of k5 0
      have p1 := cell_of k5 1
      have p2 := cell_of k5 2
      have p3 := cell_of k5 3
      simp at p0 p1 p2 p3
      clear k4 k5 b4 b5
      go_wp2_with fail
      refine (HAdd.out _ B5).mono ?_
      rintro e w6 h6
      have h7 := h6.pre B5
      have HN2 := hide (HNX.out _ _ h7)
      have ee := h6.e
      clear p0 p1 p2 p3 B5 h6 h7 HNX HAdd HT
      subst ee
      go_wp2_with fail
      go_roundg (m - (i + 1))
      case measure => omega
      case rel => exact ⟨i + 1, r + 1, by omega, rfl, by go_num, rfl, HNF, HN2⟩
theorem et_lenA : ∀ (E : List Pu) (r t : Int), (Em.et E r t).length ≤ 11 * E.length
  | [], r, t => by simp [Em.et]
  | p :: E, r, t => by
    have h1 := ep_len p r t
    have h2 := et_lenA E (Em.er p r) t
    rw [Em.et, List.length_append, List.length_cons]
    omega
theorem et_len {c n : Int} {E : List Pu} (hf : Lo.Fit c n E) (t : Int) : (Em.et E 2 t).length ≤ 300 := by
  have h1 := et_lenA E 2 t
  have h2 := hf.len
  omega
set_option maxHeartbeats 4000000 in
theorem addFirst47_any {w : World} {cb k : Nat} {v : Value} {C : List Cd.In} {R : Int} (h : CO w cb k v C R) (hlen : C.length ≤ 600000) {okE : Nat → Prop} {aE : Option Addr} {cE : Nat} {E : List Pu} (hE : HPu okE w (.slice aE E.length cE) E) (hok : ∀ i, okE i → i ≠ cb ∧ i ≠ k) {c n : Int} (hf : Lo.Fit c n E) :
    Calls Tryd.prog 47 #[.pointer (some ⟨cb, 0, none⟩), .slice aE E.length cE] w (CP w cb k (C ++ (Em.et E 2 0 ++ [⟨9, 0, 1, 2, 0, 0⟩])) (Em.rg R (Em.et E 2 0 ++ [⟨9, 0, 1, 2, 0, 0⟩]))) := by
  have hl := et_len hf 0
  have HT := hide (addTree42_any h (by omega) hE hok hf (Int.le_refl 0))
  generalize E.length = m at HT ⊢
  rw [← List.append_assoc, Em.rg_app]
  generalize hX : Em.et E 2 0 = X at HT ⊢
  rw [hX] at hl
  clear h hE hok hf hX
  go_enter Tryd.func47, Tryd.ntmps47
  go_wp2_with fail
  refine HT.out.mono ?_
  rintro e w1 ⟨rfl, ⟨k1, v1, o1, o2⟩, a1⟩
  have HO := hide o1
  clear o1 HT
  go_wp2_with fail
  refine (addOne HO.out (by rw [List.length_append]; omega) _ (Below.refl _ _) 9 0 1 2 0 0 (by omega)).mono ?_
  rintro e w4 h4
  obtain ⟨rfl, ho, ha⟩ := CP.next a1 o2 h4
  go_wp2
  exact bodyPost_end (v := .tuple #[]) (by simp [results, Tryd.results47]) rfl ⟨rfl, ho, ha⟩
end Go.Proofs.YtbiomnnlpafciaaDoor
namespace Go.Proofs.YtbiomnnlpafciaaDoor
open Go.RowKit Go.IntWalk
set_option linter.unusedVariables false
set_option linter.unusedSimpArgs false
/-- a loop of code -/
def loopC (n : Int) (E : List Pu) (X : List Cd.In) : List Cd.In := ⟨10, 0, 0, 0, 0, n⟩ :: ((Em.et E 2 n ++ X) ++ [⟨11, 0, 0, 0, 0, 0⟩])
theorem far_own {okE : Nat → Prop} {cb k k1 N : Nat} (hok : ∀ i, okE i → i ≠ cb ∧ i ≠ k) (h : k1 = k ∨ N ≤ k1) : ∀ i, (okE i ∧ i < N) → i ≠ cb ∧ i ≠ k1 := fun i hi => by
  have := hok i hi.1
  omega
set_option maxHeartbeats 16000000 in
theorem addLoop45_any {w : World} {cb k : Nat} {v : Value} {C : List Cd.In} {R : Int} (h : CO w cb k v C R) (hlen : C.length ≤ 500000) (op kk n t : Int) {aF : Option Addr} {nF cF : Nat} {okE : Nat → Prop} {aE : Option Addr} {cE : Nat} {E : List Pu} (hE : HPu okE w (.slice aE E.length cE) E) (hok : ∀ i, okE i → i ≠ cb ∧ i ≠ k) {c m : Int} (hf : Lo.Fit c m E) (ht : 0 ≤ n) {okT : Nat → Prop} {aT : Option Addr} {cT : Nat} {X : List Cd.In} (hX : HIns okT w (.slice aT X.length cT) X) (hokT : ∀ i, okT i → i ≠ cb ∧ i ≠ k) (hXl : X.length ≤ 100) (hXr : ∀ x ∈ X, 0 ≤ x.r ∧ x.r ≤ 1000) :
    Calls Tryd.prog 45 #[.pointer (some ⟨cb, 0, none⟩), .agg #[.int .i64 op, .int .i64 kk, .int .i64 n, .int .i64 t, .slice aF nF cF, .slice aE E.length cE], .slice aT X.length cT] w (CP w cb k (C ++ loopC n E X) (Em.rg R (loopC n E X))) := by
  have hl := et_len hf n
  have hcb := lt_of h.m
  have hk := h.lt
  have hE0 := hE.wide (ok' := fun i => okE i ∧ i < w.heap.size) (fun i h1 h2 => ⟨h1, h2⟩)
  have hX0 : HIns (fun i => okT i ∧ i < w.heap.size) w (.slice aT X.length cT) X := hX.wide (fun i h1 h2 => ⟨h1, h2⟩)
  have b1 : Below w.heap.size w (w.alloc (.cells #[.int .i64 op, .int .i64 kk, .int .i64 n, .int .i64 t, .slice aF nF cF, .slice aE E.length cE] 62 (0, 0))) := (Below.refl _ _).alloc (Nat.le_refl _) _
  have kS := heap_new w (.cells #[.int .i64 op, .int .i64 kk, .int .i64 n, .int .i64 t, .slice aF nF cF, .slice aE E.length cE] 62 (0, 0))
  have HT := hide (fun W k1 v1 C1 R1 (o : CO W cb k1 v1 C1 R1) (hk1 : k1 = k ∨ w.heap.size ≤ k1) (hl1 : C1.length ≤ 700000) (a : Aside [cb, k] w.heap.size w W) => addTree42_any o hl1 (hE0.aside a (fun i hi => by have := hok i hi.1; simp; exact this)) (far_own hok hk1) hf ht)
  have HA := hide (fun W k1 v1 C1 R1 (o : CO W cb k1 v1 C1 R1) (hk1 : k1 = k ∨ w.heap.size ≤ k1) (hl1 : C1.length ≤ 900000) (a : Aside [cb, k] w.heap.size w W) => add43_any o (hX0.past a (fun i hi => by have := hokT i hi.1; simp; exact this)) (far_own hokT hk1) (by omega) hXr)
  have e1 : C ++ loopC n E X = ((C ++ [⟨10, 0, 0, 0, 0, n⟩]) ++ Em.et E 2 n) ++ X ++ [⟨11, 0, 0, 0, 0, 0⟩] := by simp [loopC]
  have e2 : Em.rg R (loopC n E X) = Em.rg (Em.rg (Em.rg (Em.rg R [⟨10, 0, 0, 0, 0, n⟩]) (Em.et E 2 n)) X) [⟨11, 0, 0, 0, 0, 0⟩] := by
    rw [← Em.rg_app, ← Em.rg_app, ← Em.rg_app]
    simp [loopC]
  rw [e1, e2]
  generalize E.length = ne at HT b1 kS ⊢
  obtain ⟨nx, hnx⟩ : ∃ nx, nx = X.length := ⟨_, rfl⟩
  rw [← hnx] at HA hXl ⊢
  have HNX := hide hnx
  clear hnx
  generalize Em.et E 2 n = Y at HT hl e1 e2 ⊢
  have HH := hide h
  clear h hE hok hf ht hX hokT hXr hE0 hX0 e1 e2
  go_enter Tryd.func45, Tryd.ntmps45
  go_upto_region 1 with fail
  generalize w.alloc (.cells #[.int .i64 op, .int .i64 kk, .int .i64 n, .int .i64 t, .slice aF nF cF, .slice aE ne cE] 62 (0, 0)) = w1 at b1 kS ⊢
  have s0 := cell_of kS 0
  have s1 := cell_of kS 1
  have s2 := cell_of kS 2
  have s3 := cell_of kS 3
  have s4 := cell_of kS 4
  have s5 := cell_of kS 5
  simp at s0 s1 s2 s3 s4 s5
  go_wp2_with fail
  refine (addOne (HH.out.under b1) (by omega) _ (Below.refl _ _) 10 0 0 0 0 n (by omega)).mono ?_
  rintro e w2 h2
  obtain ⟨ee, ⟨k2, v2, o2, hk2⟩, a2⟩ := h2
  have yS := lt_of kS
  have kS2 := (a2.block (w.heap.size) yS (by simp; omega)).trans kS
  have A2 : Aside [cb, k] w.heap.size w w2 := (aside b1).trans a2 b1.size
  have K2 : k2 = k ∨ w.heap.size ≤ k2 := hk2.imp id (fun h => Nat.le_trans b1.size h)
  have HT2 := hide (HT.out w2 k2 v2 _ _ o2 K2 (by simp; omega) A2)
  have yS2 := Nat.lt_of_lt_of_le yS a2.size
  have ne2 : w.heap.size ≠ k2 := by rcases hk2 with h | h <;> omega
  have s0 := cell_of kS2 0
  have s1 := cell_of kS2 1
  have s2 := cell_of kS2 2
  have s3 := cell_of kS2 3
  have s4 := cell_of kS2 4
  have s5 := cell_of kS2 5
  simp at s0 s1 s2 s3 s4 s5
  clear HT b1 kS o2 a2 hk2 HH yS
  subst ee
  go_wp2_with fail
  refine HT2.out.mono ?_
  rintro e w3 h3
  obtain ⟨ee, ⟨k3, v3, o3, hk3⟩, a3⟩ := h3
  have A3 := aside_next A2 K2 a3
  have K3 := next_own K2 hk3 A2.size
  have HA3 := hide (HA.out w3 k3 v3 _ _ o3 K3 (by simp; omega) A3)
  clear HT2 HA o3 a3 hk3 K2 A2 kS2 s0 s1 s2 s3 s4 s5 ne2 yS2
  subst ee
  go_wp2_with fail
  refine HA3.out.mono ?_
  rintro e w4 h4
  obtain ⟨ee, ⟨k4, v4, o4, hk4⟩, a4⟩ := h4
  have A4 := aside_next A3 K3 a4
  have K4 := next_own K3 hk4 A3.size
  have HO4 := hide o4
  clear HA3 o4 a4 hk4 K3 A3
  subst ee
  go_wp2_with fail
  refine (addOne HO4.out (by simp; have := HNX.out; omega) _ (Below.refl _ _) 11 0 0 0 0 0 (by omega)).mono ?_
  rintro e w5 h5
  have h6 := CP.next A4 K4 h5
  have ee := h6.e
  have ho := h6.o
  have ha := h6.a
  clear h5 h6 HO4
  subst ee
  go_wp2
  exact bodyPost_end (v := .tuple #[]) (by simp [results, Tryd.results45]) rfl ⟨rfl, ho, ha⟩
end Go.Proofs.YtbiomnnlpafciaaDoor
