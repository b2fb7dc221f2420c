
/-
  DERIVED. THE WALK of the reader's declarations, whatever comes.
-/
import Derived.Test.YtmgaeapckfdbpabDoorPg4
namespace Go.Proofs.YtmgaeapckfdbpabDoor
open Go.RowKit Go.IntWalk
set_option linter.unusedVariables false
set_option linter.unusedSimpArgs false
set_option maxRecDepth 100000

theorem terms_nil {ok : Nat → Prop} {w : World} : HTerms ok w (.slice none 0 0) [] := ⟨fun _ => [], Sl.nil, fun i h => absurd h (Nat.not_lt_zero _)⟩

set_option maxHeartbeats 8000000 in
theorem decl_any {b g cap : Nat} {I : Inp} {op : Nat} : Does 38 b g cap I op dcV (Ps.decl I) := by
  intro nx w h hG
  have hb := h.bb
  have hg := h.gb
  go_enter Tryd.func38, Tryd.ntmps38
  go_wp2_with fail
  refine (name_any (h.alloc _)).mono ?_
  rintro e w1 ⟨a1, hres⟩
  have z1 : w.heap.size + 1 ≤ w1.heap.size := by simpa using a1.size
  have A1 := ((Aside.refl (S := [b]) (B := w.heap.size) w).alloc (Nat.le_refl _) _).trans a1 (by simp)
  cases hn : Ps.name I nx with
  | err c a =>
    rw [hn] at hres
    obtain rfl : e = _ := hres
    exact ⟨rfl, Post.fail (by unfold Ps.decl; rw [hn]; rfl) A1⟩
  | ok s n1 =>
    rw [hn] at hres
    obtain ⟨le1, h1, _, rfl, rfl⟩ := hres
    have hA1 := a1.keep (heap_new w _) (by simp) (by simp; omega)
    have HN := hide hn
    clear hn
    go_wp2_with fail
    refine (need_any (h1.alloc _) ⟨#[58]⟩ (by decide)).mono ?_
    rintro e w2 ⟨a2, hres⟩
    have z2 : w1.heap.size + 1 ≤ w2.heap.size := by simpa using a2.size
    have A2 := (A1.alloc (by omega) _).trans a2 (by simp; omega)
    have hB2 := a2.keep (heap_new w1 _) (by simp) (by simp; omega)
    have hA2 := a2.keep (keep_alloc hA1 _) (by simp; omega) (by simp; omega)
    have es : (⟨#[58]⟩ : ByteArray).data.toList = [58] := rfl
    rw [es] at hres
    clear es hA1 a1 a2 A1
    cases hn : Ps.need I [58] n1 with
    | err c a =>
      rw [hn] at hres
      obtain rfl : e = _ := hres
      exact ⟨rfl, Post.fail (by unfold Ps.decl; rw [HN.out]; simp only [Res.bind]; rw [hn]) A2⟩
    | ok u n2 =>
      rw [hn] at hres
      obtain ⟨le2, h2, _, rfl, rfl⟩ := hres
      have hmod : Hid (Ps.decl I nx = if Ps.sees I [105, 110, 116] n2 = true then Ps.declN I s 105 (n2 + 1) else if Ps.sees I [98, 111, 111, 108] n2 = true then Ps.declN I s 98 (n2 + 1) else Ps.refuse I n2) := by
        show Ps.decl I nx = _
        unfold Ps.decl
        rw [HN.out]
        simp only [Res.bind]
        rw [hn]
      clear HN hn h1
      go_wp2_with fail
      refine (take_any h2 ⟨#[105, 110, 116]⟩ (by decide)).mono ?_
      rintro e w3 ⟨rfl, h3, a3⟩
      have z3 := a3.size
      have A3 := A2.trans a3 (by omega)
      have hA3 := a3.keep hA2 (by omega) (by simp; omega)
      have hB3 := a3.keep hB2 (by omega) (by simp; omega)
      have es : (⟨#[105, 110, 116]⟩ : ByteArray).data.toList = [105, 110, 116] := rfl
      rw [es] at h3
      simp only [es]
      clear es hA2 hB2 a3 A2 h2
      cases hq : Ps.sees I [105, 110, 116] n2 with
      | true =>
        rw [hq] at h3
        simp only [if_true] at h3
        have hmodN : Hid (Ps.decl I nx = Ps.declN I s 105 (n2 + 1)) := by
          show Ps.decl I nx = _
          rw [hmod.out]
          simp [hq]
        have u1 := cell_of hB3 1
        have g1 := free_of hB3 1
        simp at u1
        have hB5 := set_in hB3 1 (.int .u8 105)
        have hA5 := keep_set hA3 (p := ⟨w1.heap.size, 1, none⟩) (by simp; omega) (.int .u8 105)
        have h5 := h3.set (p := ⟨w1.heap.size, 1, none⟩) (by simp; omega) (by simp; omega) (.int .u8 105)
        have A5 := A3.set (p := ⟨w1.heap.size, 1, none⟩) (by simp; omega) (.int .u8 105)
        have z5 : (w3.setCell ⟨w1.heap.size, 1, none⟩ (.int .u8 105)).heap.size = w3.heap.size := by simp [World.setCell]
        simp at hB5
        go_wp2_with fail
        generalize w3.setCell ⟨w1.heap.size, 1, none⟩ (.int .u8 105) = w5 at hB5 hA5 h5 A5 z5 ⊢
        clear u1 g1 hA3 hB3 h3 A3 hmod
        refine (take_any h5 ⟨#[94]⟩ (by decide)).mono ?_
        rintro e w6 ⟨rfl, h6, a6⟩
        have z6 := a6.size
        have A6 := A5.trans a6 (by omega)
        have hA6 := a6.keep hA5 (by omega) (by simp; omega)
        have hB6 := a6.keep hB5 (by omega) (by simp; omega)
        have es : (⟨#[94]⟩ : ByteArray).data.toList = [94] := rfl
        rw [es] at h6
        simp only [es]
        clear es a6 A5 h5 hA5 hB5
        cases hq6 : Ps.sees I [94] (n2 + 1) with
        | false =>
          rw [hq6] at h6
          simp only [Bool.false_eq_true, if_false] at h6
          have cb0 := cell_of hB6 0
          have cb1 := cell_of hB6 1
          have cb2 := cell_of hB6 2
          have ca0 := cell_of hA6 0
          have ca1 := cell_of hA6 1
          have ca2 := cell_of hA6 2
          have fA := fun o => free_of hA6 o
          simp at cb0 cb1 cb2 ca0 ca1 ca2
          go_wp2
          refine bodyPost_ret (v := .agg #[.string s, .int .u8 105, .slice none 0 0]) (by simp [results, Tryd.results38, go_sem, ca0, ca1, ca2]) rfl ?_
          exact Post.good (v := ⟨s, 105, []⟩) (by rw [hmodN.out]; unfold Ps.declN; rw [hq6]; rfl) (((A6.set (by simp) _).set (by simp) _).set (by simp) _) (by omega) (((h6.set (by simp; omega) (by simp; omega) _).set (by simp; omega) (by simp; omega) _).set (by simp; omega) (by simp; omega) _) ⟨_, _, _, rfl, terms_nil⟩
        | true =>
          rw [hq6] at h6
          simp only [if_true] at h6
          go_wp2_with fail
          refine (size_any h6).mono ?_
          rintro e w7 ⟨a7, hres⟩
          have z7 := a7.size
          have A7 := A6.trans a7 (by omega)
          have hA7 := a7.keep hA6 (by omega) (by simp; omega)
          have hB7 := a7.keep hB6 (by omega) (by simp; omega)
          clear hA6 hB6 h6 A6
          cases hn : Ps.size I (n2 + 1 + 1) with
          | err c a =>
            rw [hn] at hres
            obtain rfl : e = _ := hres
            exact ⟨rfl, Post.fail (by rw [hmodN.out]; unfold Ps.declN; rw [hq6, if_pos rfl, hn]; rfl) A7⟩
          | ok z n3 =>
            rw [hn] at hres
            obtain ⟨le7, h7, x7, rfl, hV⟩ := hres
            obtain ⟨ad, nd, cd, rfl⟩ := HTerms.slice hV
            have cb0 := cell_of hB7 0
            have cb1 := cell_of hB7 1
            have cb2 := cell_of hB7 2
            have ca0 := cell_of hA7 0
            have ca1 := cell_of hA7 1
            have ca2 := cell_of hA7 2
            have fA := fun o => free_of hA7 o
            have fB := fun o => free_of hB7 o
            simp at cb0 cb1 cb2 ca0 ca1 ca2
            have hV1 := hV.wide (ok' := fun i => w1.heap.size < i) (fun i hi _ => by omega)
            have HN7 := hide hn
            clear hn hV
            go_wp2
            refine bodyPost_ret (v := .agg #[.string s, .int .u8 105, .slice ad nd cd]) (by simp [results, Tryd.results38, go_sem, ca0, ca1, ca2]) rfl ?_
            exact Post.good (v := ⟨s, 105, z⟩) (by rw [hmodN.out]; unfold Ps.declN; rw [hq6, if_pos rfl, HN7.out]; rfl) ((((A7.set (by simp; omega) _).set (by simp) _).set (by simp) _).set (by simp) _) (by omega) ((((h7.set (by simp; omega) (by simp; omega) _).set (by simp; omega) (by simp; omega) _).set (by simp; omega) (by simp; omega) _).set (by simp; omega) (by simp; omega) _) ⟨_, _, _, rfl, ((((hV1.set (by simp) _).set (by simp; omega) _).set (by simp; omega) _).set (by simp; omega) _).wide (fun i hi _ => by omega)⟩
      | false =>
        rw [hq] at h3
        simp only [Bool.false_eq_true, if_false] at h3
        go_wp2_with fail
        refine (take_any h3 ⟨#[98, 111, 111, 108]⟩ (by decide)).mono ?_
        rintro e w4 ⟨rfl, h4, a4⟩
        have z4 := a4.size
        have A4 := A3.trans a4 (by omega)
        have hA4 := a4.keep hA3 (by omega) (by simp; omega)
        have hB4 := a4.keep hB3 (by omega) (by simp; omega)
        have es : (⟨#[98, 111, 111, 108]⟩ : ByteArray).data.toList = [98, 111, 111, 108] := rfl
        rw [es] at h4
        simp only [es]
        clear es hA3 hB3 a4 A3 h3
        cases hq2 : Ps.sees I [98, 111, 111, 108] n2 with
        | true =>
          rw [hq2] at h4
          simp only [if_true] at h4
          have hmodN : Hid (Ps.decl I nx = Ps.declN I s 98 (n2 + 1)) := by
            show Ps.decl I nx = _
            rw [hmod.out]
            simp [hq, hq2]
          have u1 := cell_of hB4 1
          have g1 := free_of hB4 1
          simp at u1
          have hB5 := set_in hB4 1 (.int .u8 98)
          have hA5 := keep_set hA4 (p := ⟨w1.heap.size, 1, none⟩) (by simp; omega) (.int .u8 98)
          have h5 := h4.set (p := ⟨w1.heap.size, 1, none⟩) (by simp; omega) (by simp; omega) (.int .u8 98)
          have A5 := A4.set (p := ⟨w1.heap.size, 1, none⟩) (by simp; omega) (.int .u8 98)
          have z5 : (w4.setCell ⟨w1.heap.size, 1, none⟩ (.int .u8 98)).heap.size = w4.heap.size := by simp [World.setCell]
          simp at hB5
          go_wp2_with fail
          generalize w4.setCell ⟨w1.heap.size, 1, none⟩ (.int .u8 98) = w5 at hB5 hA5 h5 A5 z5 ⊢
          clear u1 g1 hA4 hB4 h4 A4 hmod
          refine (take_any h5 ⟨#[94]⟩ (by decide)).mono ?_
          rintro e w6 ⟨rfl, h6, a6⟩
          have z6 := a6.size
          have A6 := A5.trans a6 (by omega)
          have hA6 := a6.keep hA5 (by omega) (by simp; omega)
          have hB6 := a6.keep hB5 (by omega) (by simp; omega)
          have es : (⟨#[94]⟩ : ByteArray).data.toList = [94] := rfl
          rw [es] at h6
          simp only [es]
          clear es a6 A5 h5 hA5 hB5
          cases hq6 : Ps.sees I [94] (n2 + 1) with
          | false =>
            rw [hq6] at h6
            simp only [Bool.false_eq_true, if_false] at h6
            have cb0 := cell_of hB6 0
            have cb1 := cell_of hB6 1
            have cb2 := cell_of hB6 2
            have ca0 := cell_of hA6 0
            have ca1 := cell_of hA6 1
            have ca2 := cell_of hA6 2
            have fA := fun o => free_of hA6 o
            simp at cb0 cb1 cb2 ca0 ca1 ca2
            go_wp2
            refine bodyPost_ret (v := .agg #[.string s, .int .u8 98, .slice none 0 0]) (by simp [results, Tryd.results38, go_sem, ca0, ca1, ca2]) rfl ?_
            exact Post.good (v := ⟨s, 98, []⟩) (by rw [hmodN.out]; unfold Ps.declN; rw [hq6]; rfl) (((A6.set (by simp) _).set (by simp) _).set (by simp) _) (by omega) (((h6.set (by simp; omega) (by simp; omega) _).set (by simp; omega) (by simp; omega) _).set (by simp; omega) (by simp; omega) _) ⟨_, _, _, rfl, terms_nil⟩
          | true =>
            rw [hq6] at h6
            simp only [if_true] at h6
            go_wp2_with fail
            refine (size_any h6).mono ?_
            rintro e w7 ⟨a7, hres⟩
            have z7 := a7.size
            have A7 := A6.trans a7 (by omega)
            have hA7 := a7.keep hA6 (by omega) (by simp; omega)
            have hB7 := a7.keep hB6 (by omega) (by simp; omega)
            clear hA6 hB6 h6 A6
            cases hn : Ps.size I (n2 + 1 + 1) with
            | err c a =>
              rw [hn] at hres
              obtain rfl : e = _ := hres
              exact ⟨rfl, Post.fail (by rw [hmodN.out]; unfold Ps.declN; rw [hq6, if_pos rfl, hn]; rfl) A7⟩
            | ok z n3 =>
              rw [hn] at hres
              obtain ⟨le7, h7, x7, rfl, hV⟩ := hres
              obtain ⟨ad, nd, cd, rfl⟩ := HTerms.slice hV
              have cb0 := cell_of hB7 0
              have cb1 := cell_of hB7 1
              have cb2 := cell_of hB7 2
              have ca0 := cell_of hA7 0
              have ca1 := cell_of hA7 1
              have ca2 := cell_of hA7 2
              have fA := fun o => free_of hA7 o
              have fB := fun o => free_of hB7 o
              simp at cb0 cb1 cb2 ca0 ca1 ca2
              have hV1 := hV.wide (ok' := fun i => w1.heap.size < i) (fun i hi _ => by omega)
              have HN7 := hide hn
              clear hn hV
              go_wp2
              refine bodyPost_ret (v := .agg #[.string s, .int .u8 98, .slice ad nd cd]) (by simp [results, Tryd.results38, go_sem, ca0, ca1, ca2]) rfl ?_
              exact Post.good (v := ⟨s, 98, z⟩) (by rw [hmodN.out]; unfold Ps.declN; rw [hq6, if_pos rfl, HN7.out]; rfl) ((((A7.set (by simp; omega) _).set (by simp) _).set (by simp) _).set (by simp) _) (by omega) ((((h7.set (by simp; omega) (by simp; omega) _).set (by simp; omega) (by simp; omega) _).set (by simp; omega) (by simp; omega) _).set (by simp; omega) (by simp; omega) _) ⟨_, _, _, rfl, ((((hV1.set (by simp) _).set (by simp; omega) _).set (by simp; omega) _).set (by simp; omega) _).wide (fun i hi _ => by omega)⟩
        | false =>
          rw [hq2] at h4
          simp only [Bool.false_eq_true, if_false] at h4
          go_wp2_with fail
          refine (refuse_any h4).mono ?_
          rintro e w5 ⟨rfl, b5⟩
          exact ⟨rfl, Post.fail (by rw [hmod.out]; simp [hq, hq2]; rfl) (A4.trans (aside b5) A4.size)⟩

end Go.Proofs.YtmgaeapckfdbpabDoor
