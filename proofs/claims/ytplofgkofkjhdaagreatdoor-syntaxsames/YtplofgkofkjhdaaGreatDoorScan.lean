/-
  DERIVED. THE WALK of token.Scan.
-/
import Derived.Test.YtplofgkofkjhdaaGreatDoorReads
import Derived.Test.YtplofgkofkjhdaaGreatDoorMath
namespace Go.Proofs.YtplofgkofkjhdaaGreatDoor
open Go.RowKit Go.IntWalk
set_option linter.unusedVariables false
set_option linter.unusedSimpArgs false

theorem Tryz.info71 : (Tryz.prog.info? 71).map (fun i => (i.zero, i.size, i.bytes)) = some (some (.agg #[.int .i64 0, .int .i64 0, .string ⟨#[]⟩, .int .i64 0]), 4, 40) := by kernel_rfl

def str (l : List UInt8) : ByteArray := ⟨l.toArray⟩

/-- a token's cells -/
def tokCells (t : Tk.Tok) : List Value := [.int .i64 t.kind, .int .i64 (t.place : Int), .string (str t.text), .int .i64 t.n]

def toksCells (l : List Tk.Tok) : List Value := l.flatMap tokCells

theorem drop_extract (s : ByteArray) (p : Nat) : (s.extract p s.size).data.toList = s.data.toList.drop p := by
  rw [extract_list, List.take_of_length_le]
  rw [List.length_drop, ← Lib.size_eq]
  exact Nat.le_refl _

theorem ownsRow_below {w w' : World} {base : Nat} {e : TypeId} {size : Nat} {v : Value} {n : Nat} {xs : List Value} (h : w.ownsRow base e size v n xs) (hb : Below w.heap.size w w') : w'.ownsRow base e size v n xs :=
  h.kept (row := none) ⟨hb.os, hb.tape, hb.output, hb.size, fun k hk _ => hb.block k hk⟩ (by cases hv : v.ownBlock <;> simp)

theorem res_cells {w w1 : World} (h : Below (w.heap.size + 1) (w.alloc (.cells #[.int .i64 0, .int .i64 0] 27)) w1) :
    w1.cell? ⟨w.heap.size, 0, none⟩ = some (.int .i64 0) ∧ w1.cell? ⟨w.heap.size, 1, none⟩ = some (.int .i64 0) ∧ w1.frozen? ⟨w.heap.size, 0, none⟩ = false ∧ w1.frozen? ⟨w.heap.size, 1, none⟩ = false ∧ w.heap.size < w1.heap.size := by
  obtain ⟨hc, hf⟩ := bcellB h
  refine ⟨?_, ?_, ?_, ?_, ?_⟩
  · rw [hc _ _ (by omega)]; simp
  · rw [hc _ _ (by omega)]; simp
  · rw [hf _ _ (by omega)]; simp
  · rw [hf _ _ (by omega)]; simp
  · have := h.size; simp at this; omega

set_option maxHeartbeats 2000000 in
set_option maxRecDepth 100000 in
theorem scan_any (s : ByteArray) (w : World) (hlim : s.size ≤ 281474976710656) :
    Calls Tryz.prog 12 #[.string s] w fun e w' => ∃ v, e = .returned (.tuple #[v, .agg #[.int .i64 (Tk.scan s.data.toList).2.1, .int .i64 (Tk.scan s.data.toList).2.2]]) ∧
      w'.ownsRow (w.heap.size + 1) 71 4 v (Tk.scan s.data.toList).1.length (toksCells (Tk.scan s.data.toList).1) ∧ Below w.heap.size w w' := by
  have hsz : s.data.toList.length = s.size := by rw [Lib.size_eq]
  by_cases hbig : 12000 < s.size
  · have e : Tk.scan s.data.toList = ([], 7, 12000) := by simp [Tk.scan, hsz, hbig]
    rw [e]
    clear e hsz
    go_enter Tryz.func12, Tryz.ntmps12
    go_wp2
    refine bodyPost_ret (v := .tuple #[.slice none 0 0, .agg #[.int .i64 7, .int .i64 12000]]) (by simp [results, Tryz.results12, go_sem]) rfl ⟨_, rfl, World.ownsRow_nil _ _ _ _, ?_⟩
    exact (Below.refl _ _).alloc (Nat.le_refl _) _
  · have hml : s.size ≤ maxLen := by unfold maxLen; omega
    have hb := Tk.blankLen_le false s.data.toList
    rw [hsz] at hb
    obtain ⟨R, hR⟩ : ∃ R, R = Tk.scan s.data.toList := ⟨_, rfl⟩
    have HS : Hid (R = Tk.comb [] (Tk.scanR s.data.toList.length (s.data.toList.drop (Tk.blankLen false s.data.toList)) (Tk.blankLen false s.data.toList))) := by
      show _ = _
      rw [hR, ← Tk.scan_start _ (by omega)]
    rw [← hR]
    clear hR hsz
    obtain ⟨i0, hi, hz0, hz1, hz2⟩ := info_parts Tryz.info71
    have hd12 : decide ((12000 : Int) < (s.size : Int)) = false := by simp; omega
    go_enter Tryz.func12, Tryz.ntmps12
    go_wp2_with (go_at_call 33; refine (blankLength_any _ _ hml).mono ?_; rintro e w' ⟨rfl, rfl⟩)
    go_loopw [4, 5] (fun v i wr => ∃ (acc : List Tk.Tok) (p f : Nat), p ≤ s.size ∧ i = .int .i64 p ∧ acc.length ≤ p ∧ wr.ownsRow (w.heap.size + 1) 71 4 v acc.length (toksCells acc) ∧ s.size - p ≤ f ∧
        Hid (R = Tk.comb acc (Tk.scanR f (s.data.toList.drop p) p)) ∧ Below (w.heap.size + 1) (w.alloc (.cells #[.int .i64 0, .int .i64 0] 27)) wr)
      (fun _ i _ => s.size - (intOf i).toNat)
    case atStart => exact ⟨[], _, s.data.toList.length, hb, rfl, Nat.zero_le _, World.ownsRow_nil _ _ _ _, by rw [← Lib.size_eq]; omega, HS, Below.refl _ _⟩
    case round =>
      obtain ⟨acc, p, f, hp, rfl, hacc, hown, hf, H, hbr⟩ := hrel
      obtain ⟨hcr, hfr⟩ := bcellB hbr
      have hzr : w.heap.size < wr.heap.size := by have := hbr.size; simp at this; omega
      by_cases hlt : p < s.size
      · obtain ⟨f, rfl⟩ : ∃ f', f = f' + 1 := ⟨f - 1, by omega⟩
        have hne : s.data.toList.drop p ≠ [] := by
          intro e
          have := congrArg List.length e
          rw [List.length_drop, ← Lib.size_eq] at this
          simp at this; omega
        have hstep := Tk.scanR_step f (s.data.toList.drop p) p hne
        have hfault := Tk.scanR_fault f (s.data.toList.drop p) p hne
        have hok := Tk.read_ok (s.data.toList.drop p) hne
        have hnx := Tk.nextAt_le (s.data.toList.drop p) hne
        have hnd : Tk.nextAt (s.data.toList.drop p) = (Tk.read (s.data.toList.drop p)).text.length + Tk.blankLen false (s.data.toList.drop (p + (Tk.read (s.data.toList.drop p)).text.length)) := by unfold Tk.nextAt; rw [List.drop_drop]
        rw [List.drop_drop] at hstep
        rw [List.length_drop, ← Lib.size_eq] at hok hnx
        have HG : Hid (∃ g, g = Tk.read (s.data.toList.drop p)) := ⟨_, rfl⟩
        obtain ⟨g, hg⟩ := HG.out
        rw [← hg] at hstep hfault hok hnx hnd
        have HGG := hide hg
        clear hg HG HS hne
        by_cases hcode : g.code = 0
        · have hR : R = Tk.comb (acc ++ [⟨g.kind, p, g.text, g.n⟩]) (Tk.scanR f (s.data.toList.drop (p + Tk.nextAt (s.data.toList.drop p))) (p + Tk.nextAt (s.data.toList.drop p))) := by rw [H.out]; exact hstep hcode acc
          have hok := hok hcode
          have hnx := hnx hcode
          obtain ⟨nx, hnxe⟩ : ∃ nx, nx = Tk.nextAt (s.data.toList.drop p) := ⟨_, rfl⟩
          rw [← hnxe] at hR hnx hnd
          have HR := hide hR
          obtain ⟨bl, hbl⟩ : ∃ bl, bl = Tk.blankLen false (s.data.toList.drop (p + g.text.length)) := ⟨_, rfl⟩
          rw [← hbl] at hnd
          have HND := hide hnd
          have HBL := hide hbl
          have hbll : bl ≤ s.size - (p + g.text.length) := by rw [hbl]; have := Tk.blankLen_le false (s.data.toList.drop (p + g.text.length)); rw [List.length_drop, ← Lib.size_eq] at this; exact this
          clear hbl
          have htl : 0 < g.text.length := hok.2.1
          have htl2 : g.text.length ≤ s.size - p := hok.2.2
          clear hR hnd hstep hfault H hnxe hok
          have hcb : (g.code == 0) = true := by simpa using hcode
          clear hcode
          go_wp2_with fail
          refine (read_any _ _ (by rw [ByteArray.size_extract]; omega)).mono ?_
          rintro e w1 ⟨he, hb1⟩
          rw [drop_extract, ← unhide HGG] at he
          unfold gotV at he
          subst he
          have hbw := hbr.trans (hb1.mono hzr)
          have hown1 := ownsRow_below hown hb1
          obtain ⟨r0, r1, q0, q1, hzw⟩ := res_cells hbw
          clear hcr hfr hown hbr hb1
          go_wp2_with (at_builtin; refine wpList_append_own _ rfl _ _ 46 rfl (w.heap.size + 1) 71 i0 (.agg #[.int .i64 0, .int .i64 0, .string ⟨#[]⟩, .int .i64 0]) 4 40 Tryz.underlying46 hi hz0 hz1 hz2 rfl (by decide) _ _ _ rfl ((hown1.alloc _).alloc _) ⟨w1.heap.size + 1, 0, none⟩ 1 1 [.int .i64 g.kind, .int .i64 (p : Int), .string ⟨g.text.toArray⟩, .int .i64 g.n] rfl rfl ?c1 ?c2 ?c3 ?c4 ?c5 ?_)
          case c1 =>
            intro j u hj
            match j, hj with
            | 0, hj => simp at hj; subst hj; simp [Addr.add]
            | 1, hj => simp at hj; subst hj; simp [Addr.add]
            | 2, hj => simp at hj; subst hj; simp [Addr.add]
            | 3, hj => simp at hj; subst hj; simp [Addr.add]
          case c2 => intro u hu; simp at hu; rcases hu with rfl | rfl | rfl | rfl <;> rfl
          case c3 => unfold maxLen; omega
          case c4 => omega
          case c5 => simp; omega
          intro v2 w2 hown2 hgrow _
          have hlt2 := hown1.lt
          have hbw2 : Below (w.heap.size + 1) (w.alloc (.cells #[.int .i64 0, .int .i64 0] 27)) w2 :=
            ((hbw.alloc hzw _).alloc (by simp; omega) _).grown hgrow (by simp; omega) (fun k hk => (hlt2 k hk).1)
          have hct : w2.cell? ⟨w1.heap.size, 2, none⟩ = some (.string ⟨g.text.toArray⟩) :=
            hgrow.cell (by simp) (fun e => by have := (hlt2 _ e.symm).2; simp at this)
          have hown3 : w2.ownsRow (w.heap.size + 1) 71 4 v2 (acc ++ [(⟨g.kind, p, g.text, g.n⟩ : Tk.Tok)]).length (toksCells (acc ++ [⟨g.kind, p, g.text, g.n⟩])) := by
            have e1 : (acc ++ [(⟨g.kind, p, g.text, g.n⟩ : Tk.Tok)]).length = acc.length + 1 := by simp
            have e2 : toksCells (acc ++ [(⟨g.kind, p, g.text, g.n⟩ : Tk.Tok)]) = toksCells acc ++ [Value.int .i64 g.kind, .int .i64 (p : Int), .string ⟨g.text.toArray⟩, .int .i64 g.n] := by simp [toksCells, tokCells, str]
            rw [e1, e2]
            exact hown2
          clear hgrow hown2 hown1 hlt2 hbw r0 r1 q0 q1
          go_wp2_with fail
          refine (blankLength_any _ _ (by rw [ByteArray.size_extract]; unfold maxLen; omega)).mono ?_
          rintro e w3 ⟨he, rfl⟩
          rw [drop_extract, ← unhide HBL] at he
          subst he
          go_wp2
          go_roundw
          case rel => exact ⟨acc ++ [⟨g.kind, p, g.text, g.n⟩], p + nx, f, by omega, by rw [HND.out]; go_num, by simp; omega, hown3, by omega, HR, hbw2⟩
          case measure => simp [intOf]; omega
        · have hR : R = ([], g.code, (p : Int)) := by rw [H.out]; exact hfault hcode acc
          subst hR
          clear hstep hfault hok hnx hnd H
          have hcb : (g.code == 0) = false := by simpa using hcode
          go_wp2_with fail
          refine (read_any _ _ (by rw [ByteArray.size_extract]; omega)).mono ?_
          rintro e w1 ⟨he, hb1⟩
          rw [drop_extract, ← unhide HGG] at he
          unfold gotV at he
          subst he
          have hbw := hbr.trans (hb1.mono hzr)
          obtain ⟨r0, r1, q0, q1, hzw⟩ := res_cells hbw
          clear hcr hfr
          go_wp2
          refine bodyPost_ret (v := .tuple #[.slice none 0 0, .agg #[.int .i64 g.code, .int .i64 (p : Int)]]) (by simp [results, Tryz.results12, go_sem, r0, r1, hzw]) rfl ⟨_, rfl, World.ownsRow_nil _ _ _ _, ?_⟩
          exact (((((Below.refl _ w).alloc (Nat.le_refl _) _).trans (hbw.mono (Nat.le_succ _))).setCell (p := ⟨w.heap.size, 0, none⟩) (Nat.le_refl _) _).setCell (p := ⟨w.heap.size, 1, none⟩) (Nat.le_refl _) _).alloc (by simp; omega) _
      · have hpe : p = s.size := by omega
        subst hpe
        have hR : R = (acc, 0, 0) := by rw [H.out, List.drop_of_length_le (by rw [← Lib.size_eq]; exact Nat.le_refl _), Tk.scanR_end]
        subst hR
        obtain ⟨r0, r1, q0, q1, hzw⟩ := res_cells hbr
        clear hcr hfr HS H
        go_wp2
        refine bodyPost_ret (v := .tuple #[u4, .agg #[.int .i64 0, .int .i64 0]]) (by simp [results, Tryz.results12, go_sem, r0, r1, hzw]) rfl ⟨_, rfl, ?_, ?_⟩
        · exact ownsRow_setCell_below (ownsRow_setCell_below hown (by simp) _) (by simp) _
        · exact ((((Below.refl _ w).alloc (Nat.le_refl _) _).trans (hbr.mono (Nat.le_succ _))).setCell (by simp) _).setCell (by simp) _

end Go.Proofs.YtplofgkofkjhdaaGreatDoor
