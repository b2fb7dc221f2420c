/-
  DERIVED. THE WALKS of sumsByName and of size.Norm.
-/
import Derived.Test.YtjpjedigajiomaaSzD
namespace Go.Proofs.Ytjpjedigajiomaa
open Go.Shelf Go.RowKit Go.Lib Go.IntWalk
set_option linter.unusedVariables false
set_option linter.unusedSimpArgs false
set_option maxRecDepth 100000

/-- the first i have been put together -/
structure Mst (ris : List Tm) (i : Nat) (acc : List Tm) : Prop where
  mg : MG ((ris.take i).map te) (acc.map te)
  len : acc.length ≤ i
  fit : ∀ u ∈ acc, ∃ j, ∃ h : j < ris.length, j < i ∧ u.2.data.toList = (ris[j]).2.data.toList
theorem mst_start (ris : List Tm) : Mst ris 0 [] := ⟨by simpa using mg_nil, by simp, fun u hu => by simp at hu⟩
theorem take_te {ris : List Tm} {i : Nat} (h : i < ris.length) : (ris.take (i + 1)).map te = (ris.take i).map te ++ [te ris[i]] := by
  rw [List.take_succ_eq_append_getElem h, List.map_append]
  rfl
theorem mst_new {ris acc : List Tm} {i : Nat} (hs : ris.Pairwise (fun x y => cmpT x y ≤ 0)) (h : Mst ris i acc) (hi : i < ris.length) (hl : ∀ u, acc.getLast? = some u → u.2.data.toList ≠ (ris[i]).2.data.toList) : Mst ris (i + 1) (acc ++ [ris[i]]) := by
  refine ⟨?_, by rw [List.length_append, List.length_singleton]; have := h.len; omega, fun u hu => ?_⟩
  · rw [take_te hi, List.map_append]
    refine mg_new h.mg fun x hx => ?_
    rcases List.eq_nil_or_concat acc with rfl | ⟨a, u, rfl⟩
    · simp at hx
    · rw [List.concat_eq_append] at *
      obtain ⟨j, hj, hji, e⟩ := h.fit u (by simp)
      have hle : cmpT ris[j] ris[i] ≤ 0 := (List.pairwise_iff_getElem.1 hs) j i hj hi hji
      have hm := h.mg
      rw [List.map_append, List.map_singleton] at hm hx
      exact mg_last (t := te ris[i]) hm (by show Lib.compareBytes u.2.data.toList _ ≤ 0; rw [e]; exact hle) (hl u (by simp)) x hx
  · rcases List.mem_append.1 hu with m | m
    · obtain ⟨j, hj, hji, e⟩ := h.fit u m
      exact ⟨j, hj, by omega, e⟩
    · simp at m
      subst m
      exact ⟨i, hi, by omega, rfl⟩
theorem mst_more {ris a : List Tm} {u : Tm} {i : Nat} (h : Mst ris i (a ++ [u])) (hi : i < ris.length) (he : u.2.data.toList = (ris[i]).2.data.toList) : Mst ris (i + 1) (a ++ [(u.1 + (ris[i]).1, u.2)]) := by
  refine ⟨?_, ?_, fun x hx => ?_⟩
  · rw [take_te hi, List.map_append]
    have hm := h.mg
    rw [List.map_append, List.map_singleton] at hm
    exact mg_more hm he
  · have := h.len
    rw [List.length_append, List.length_singleton] at *
    omega
  · rcases List.mem_append.1 hx with m | m
    · obtain ⟨j, hj, hji, e⟩ := h.fit x (by simp [m])
      exact ⟨j, hj, by omega, e⟩
    · simp at m
      subst m
      obtain ⟨j, hj, hji, e⟩ := h.fit u (by simp)
      exact ⟨j, hj, by omega, e⟩
theorem mst_end {ris acc l : List Tm} (h : Mst ris ris.length acc) (hp : ris.Perm l) : NF (l.map te) ((acc.filter kp).map te) := by
  have h1 := h.mg
  rw [List.take_length] at h1
  have h2 := mg_nf h1
  rw [List.filter_map] at h2
  exact h2.perm (hp.map te)
theorem mst_bound {ris acc : List Tm} {i : Nat} (h : Mst ris i acc) (hl : ris.length ≤ 1000) (hs : ∀ t ∈ ris, small t.1 = true) : ∀ u ∈ acc, -1000000000 ≤ u.1 ∧ u.1 ≤ 1000000000 := by
  intro u hu
  have e := h.mg.sum u.1 u.2.data.toList (List.mem_map.2 ⟨u, hu, rfl⟩)
  rw [e]
  have h1 := sumOf_bound (l := (ris.take i).map te) (s := u.2.data.toList) (m := 1000000) (by omega) (fun t ht => by
    obtain ⟨x, hx, rfl⟩ := List.mem_map.1 ht
    exact small_iff.1 (hs x (List.mem_of_mem_take hx)))
  have h2 : ((ris.take i).map te).length ≤ 1000 := by simp; omega
  constructor <;> omega

theorem sort_nil (w : World) : Calls Try.prog 31 #[.slice none 0 0, .func (.func 32) #[] #[]] w fun e w' => e = .returned (.tuple #[]) ∧ w' = w := by
  have hins : Calls Try.prog 42 #[.slice none 0 0, .int .i64 0, .int .i64 0, .func (.func 32) #[] #[]] w fun e w' => e = .returned (.tuple #[]) ∧ w' = w := by
    go_enter Try.func42, Try.ntmps42
    go_wp2
    go_loopg [8] 0 (fun _ s8 wr => s8 = .int .i64 1 ∧ wr = w)
    case atStart => exact ⟨rfl, rfl⟩
    case round =>
      obtain ⟨rfl, rfl⟩ := hrel
      go_wp2
      go_end0
      exact ⟨rfl, rfl⟩
  have hl : Calls Try.prog 40 #[.int .u64 0] w fun e w' => e = .returned (.int .i64 0) ∧ w' = w := by
    have h := Any.bits_Len lay40 0 w (by omega) (by omega)
    change Calls Try.prog 40 _ _ _ at h
    exact h
  have hpdq : Calls Try.prog 39 #[.slice none 0 0, .int .i64 0, .int .i64 0, .int .i64 0, .func (.func 32) #[] #[]] w fun e w' => e = .returned (.tuple #[]) ∧ w' = w := by
    go_enter Try.func39, Try.ntmps39
    go_wp2_with fail
    go_loopg [1, 2] 0 (fun _ s1 s2 wr => s1 = .int .i64 0 ∧ s2 = .int .i64 0 ∧ wr = w)
    case atStart => exact ⟨rfl, rfl, rfl⟩
    case round =>
      obtain ⟨rfl, rfl, rfl⟩ := hrel
      go_wp2_with (go_at_call 42; refine hins.mono ?_; rintro e w' ⟨rfl, rfl⟩)
      exact bodyPost_ret (v := .tuple #[]) (by simp [results, Try.results39, go_sem]) rfl ⟨rfl, rfl⟩
  go_enter Try.func31, Try.ntmps31
  go_wp2_with (first | (go_at_call 40; refine hl.mono ?_; rintro e w' ⟨rfl, rfl⟩) | (go_at_call 39; refine hpdq.mono ?_; rintro e w' ⟨rfl, rfl⟩))
  go_end0
  exact ⟨rfl, rfl⟩

/-- has the last one this name? -/
def lastIs (acc : List Tm) (t : Tm) : Bool := match acc.getLast? with
  | none => false
  | some u => u.2.toList == t.2.toList
theorem lastIs_more {a : List Tm} {u t : Tm} : lastIs (a ++ [u]) t = (u.2.toList == t.2.toList) := by simp [lastIs]
theorem lastIs_false {acc : List Tm} {t : Tm} (h : lastIs acc t = false) : ∀ u, acc.getLast? = some u → u.2.data.toList ≠ t.2.data.toList := by
  intro u hu e
  unfold lastIs at h
  rw [hu] at h
  simp only at h
  rw [seq_iff.2 e] at h
  cases h
theorem lastIs_true {acc : List Tm} {t : Tm} (h : lastIs acc t = true) : ∃ a u, acc = a ++ [u] ∧ u.2.data.toList = t.2.data.toList := by
  rcases List.eq_nil_or_concat acc with rfl | ⟨a, u, rfl⟩
  · cases h
  · rw [List.concat_eq_append, lastIs_more] at h
    exact ⟨a, u, by rw [List.concat_eq_append], seq_iff.1 h⟩

set_option maxHeartbeats 8000000 in
theorem sums_any {ok : Nat → Prop} {w : World} {v : Value} {l : List Tm} (hl : HTerms ok w v l) (hlen : l.length ≤ 1000) (hsm : ∀ t ∈ l, small t.1 = true) :
    Calls Try.prog 19 #[v] w fun e w' => ∃ u r, e = .returned u ∧ OwnL kTerm w.heap.size w' u r ∧ NF (l.map te) (r.map te) ∧ Below w.heap.size w w' := by
  have hclone := clone_any hl hlen
  obtain ⟨ao, cap, rfl, hc1, hc2, hat⟩ := hl.at
  clear hat hl
  go_enter Try.func19, Try.ntmps19
  go_wp2_with fail
  refine hclone.mono ?_
  rintro e w1 ⟨v1, rfl, own1, b1⟩
  clear hclone
  have y1 := b1.size
  rcases own_blk own1 with ⟨rfl, rfl⟩ | ⟨g, c, sp, rfl, hB, hb, hc, hm, hs⟩
  · clear own1
    go_wp2_with fail
    refine (sort_nil _).mono ?_
    rintro e w2 ⟨rfl, rfl⟩
    go_wp2_with fail
    go_loopg [4, 14] 0 (fun _ s4 s14 wr => s4 = .slice none 0 0 ∧ s14 = .int .i64 0 ∧ wr = w2)
    case atStart => exact ⟨rfl, rfl, rfl⟩
    case round =>
      obtain ⟨rfl, rfl, rfl⟩ := hrel
      go_wp2_with fail
      refine (delete_any (B := w.heap.size) (OwnL.nil (T := kTerm)) (by simp)).mono ?_
      rintro e w3 ⟨v3, rfl, own3, b3⟩
      go_wp2
      go_ret
      exact ⟨_, [], rfl, own3, ⟨List.Pairwise.nil, fun n s => by simp [sumOf]⟩, b1.trans b3⟩
  · have hsort := sort_any (cap := c) hb hlen
    have hg1 := hb.lt
    clear own1 hb
    go_wp2_with fail
    refine hsort.mono ?_
    rintro e w2 ⟨rfl, r, hp, hs2, hb2, a2⟩
    clear hsort
    have A2 : Below w.heap.size w w2 := (((aside (S := [g]) b1).trans a2 y1)).below (by simp; omega)
    have y2 := A2.size
    have hrl : r.length = l.length := hp.length_eq
    have HP := hide hp
    have HS := hide hs2
    have hsr := hide (fun t (ht : t ∈ r) => hsm t (hp.mem_iff.1 ht))
    have HB2 := hide hb2
    have hg2 := hb2.lt
    clear hb2 a2 hp hs2 hsm b1 y1 hg1
    clear hs
    have hr1000 : r.length ≤ 1000 := by omega
    rw [← hrl]
    clear hrl
    go_wp2_with fail
    go_loopg [4, 6, 7, 14] r.length (fun gh s4 _ _ s14 wr => ∃ (i : Nat) (acc : List Tm), s14 = .int .i64 (i : Int) ∧ i ≤ r.length ∧ r.length ≤ gh + i ∧ acc.length ≤ i ∧ Hid (OwnL kTerm w2.heap.size wr s4 acc) ∧ Hid (Mst r i acc) ∧ Below w2.heap.size w2 wr)
    case atStart => exact ⟨0, [], rfl, by omega, by omega, by simp, OwnL.nil, mst_start r, Below.refl _ _⟩
    case round =>
      obtain ⟨i, acc, rfl, hir, hgh, hal, HO, HM, bR⟩ := hrel
      by_cases hlt : i < r.length
      case neg =>
        have hie : i = r.length := by omega
        subst hie
        have hge : ¬ (r.length : Int) < (r.length : Int) := by omega
        go_wp2_with fail
        refine (delete_any HO.out (by omega)).mono ?_
        rintro e w3 ⟨v3, rfl, own3, b3⟩
        go_wp2
        go_ret
        exact ⟨_, _, rfl, own3.lower y2, mst_end HM.out HP.out, A2.trans ((bR.trans b3).mono y2)⟩
      case pos =>
        have hltI : (i : Int) < (r.length : Int) := by omega
        obtain ⟨c0, c1⟩ := (HB2.out.below bR hg2).cell hlt
        have hgr : g < wr.heap.size := Nat.lt_of_lt_of_le hg2 bR.size
        have hsi := small_iff.1 (hsr.out r[i] (List.getElem_mem hlt))
        have HN1 := hide (mst_new HS.out HM.out hlt)
        have HN2 := hide (fun a u (e : acc = a ++ [u]) => mst_more (ris := r) (a := a) (u := u) (e ▸ HM.out) hlt)
        have HBD := hide (mst_bound HM.out (by omega) hsr.out)
        generalize r[i] = t at c0 c1 hsi HN1 HN2
        go_upto_region 7 with fail
        obtain ⟨wA, hwA⟩ : ∃ wA, wA = wr.alloc (.cells #[.int .i64 t.1, .string t.2] 39 (0, 0)) := ⟨_, rfl⟩
        have bA : Below wr.heap.size wr wA := by rw [hwA]; exact (Below.refl _ _).alloc (Nat.le_refl _) _
        have KA : wA.heap[wr.heap.size]? = some (.cells #[.int .i64 t.1, .string t.2] 39 (0, 0)) := by rw [hwA]; exact heap_new _ _
        rw [← hwA]
        clear hwA c0 c1
        have d0 := cell_of KA 0
        have d1 := cell_of KA 1
        simp at d0 d1
        have bA2 := bR.trans (bA.mono bR.size)
        have yA := lt_of KA
        have ownA := HO.out.below bA
        clear bA KA HO
        obtain ⟨a4, c4, rfl, h41, h42⟩ := ownA.form
        go_upto_region 8 with fail
        obtain ⟨n, hn⟩ : ∃ n, n = acc.length := ⟨_, rfl⟩
        rw [← hn] at h41 ownA hal ⊢
        obtain ⟨la, hla⟩ : ∃ la : Int, la = (n : Int) - 1 := ⟨_, rfl⟩
        rw [← hla]
        have HNN := hide hn
        have HLA := hide hla
        have HOA := hide ownA
        clear hn hla ownA
        go_cut [32] (fun v32 wd => v32 = .bool (lastIs acc t) ∧ Below wA.heap.size wA wd)
        case first =>
          rcases List.eq_nil_or_concat acc with rfl | ⟨a, u, rfl⟩
          · have e1 := HNN.out
            rw [List.length_nil] at e1
            subst e1
            have e2 := HLA.out
            simp at e2
            subst e2
            clear h41 h42 hal
            go_quiet (fail)
            go_wp2_with fail
            go_meet
            case rel => exact ⟨rfl, drewN_below (Below.refl _ _) _⟩
          · have e1 := HNN.out
            rw [List.concat_eq_append] at *
            rw [List.length_append, List.length_singleton] at e1
            subst e1
            have e2 := HLA.out
            rw [show ((a.length + 1 : Nat) : Int) - 1 = (a.length : Int) by omega] at e2
            subst e2
            rcases own_blk HOA.out with ⟨e1, e2⟩ | ⟨gs, cs, ss, ev, hBs, hbs, hcs, hms, hss⟩
            · simp at e2
            · injection ev with ev1 ev2 ev3
              subst ev1
              obtain ⟨s0, s1⟩ := hbs.cell (i := a.length) (by simp)
              have eu : (a ++ [u])[a.length]'(by simp) = u := by simp
              rw [eu] at s0 s1
              clear eu hbs s0 ev2 ev3 hss hcs hms hal h41 h42
              have hai : (a.length : Int) < ((a.length + 1 : Nat) : Int) := by omega
              have ha0 : (0 : Int) ≤ (a.length : Int) := by omega
              have HLI := hide (lastIs_more (a := a) (u := u) (t := t))
              cases hEq : (u.2.toList == t.2.toList) with
              | true =>
                go_quiet (fail)
                go_wp2_with fail
                go_meet
                case rel => exact ⟨by rw [HLI.out, hEq], drewN_below (Below.refl _ _) _⟩
              | false =>
                go_quiet (fail)
                go_wp2_with fail
                go_meet
                case rel => exact ⟨by rw [HLI.out, hEq], drewN_below (Below.refl _ _) _⟩
        case rest =>
          obtain ⟨rfl, bB⟩ := hcut
          have e0 := (bB.cell (p := ⟨wr.heap.size, 0, none⟩) yA).trans d0
          have e1 := (bB.cell (p := ⟨wr.heap.size, 1, none⟩) yA).trans d1
          have bB2 := bA2.trans (bB.mono bA2.size)
          have yB : wr.heap.size < wc.heap.size := Nat.lt_of_lt_of_le yA bB.size
          have yB2 := bB2.size
          have ownB := HOA.out.below bB
          clear d0 d1 bB bA2 HOA yA
          cases hli : lastIs acc t with
          | false =>
            have HM2 := hide (HN1.out (lastIs_false hli))
            have hNb := fun k hk => (ownB.lt k hk).2
            have q1 : kTerm.E (fun i => wc.heap.size ≤ i) wc [.int .i64 t.1, .string t.2] t := rfl
            have hnn := HNN.out
            have q2 : (acc.length + 1) * kTerm.bytes ≤ 140737488355328 := by show (acc.length + 1) * 24 ≤ _; omega
            have q3 : acc.length + 1 ≤ maxLen := by unfold maxLen; omega
            have hl2 := hide (show (acc ++ [t]).length ≤ i + 1 by rw [List.length_append, List.length_singleton]; omega)
            clear hnn
            go_wp2_with (at_builtin; refine wpList_more kTerm rfl _ _ 23 39 rfl Try.underlying23 w2.heap.size wc.heap.size _ acc (by rfl) ownB [.int .i64 t.1, .string t.2] t q1 (by rfl) hNb yB2 yB2 q2 q3 ?_; intro v8 w8 own8 b8 _ _)
            go_wp2_with fail
            go_roundg (gk - 1)
            case measure => omega
            case rel => exact ⟨i + 1, acc ++ [t], by go_num, by omega, by omega, hl2.out, hide own8, HM2, bB2.trans b8⟩
          | true =>
            obtain ⟨a, u, rfl, hau⟩ := lastIs_true hli
            have HM2 := hide (HN2.out a u rfl hau)
            have hbu := HBD.out u (by simp)
            have q1 := HNN.out
            rw [List.length_append, List.length_singleton] at q1
            subst q1
            have q2 := HLA.out
            rw [show ((a.length + 1 : Nat) : Int) - 1 = (a.length : Int) by omega] at q2
            subst q2
            rcases own_blk ownB with ⟨z1, z2⟩ | ⟨gs, cs, ss, ev, hBs, hbs, hcs, hms, hss⟩
            · simp at z2
            · injection ev with ev1 ev2 ev3
              subst ev1
              subst ev3
              obtain ⟨s0, s1⟩ := hbs.cell (i := a.length) (by simp)
              have eu : (a ++ [u])[a.length]'(by simp) = u := by simp
              rw [eu] at s0 s1
              have ff := fun o => hbs.free o
              have hset := fun n => hbs.setN (i := a.length) (by simp) n
              rw [eu] at hset
              have hst : ∀ n, (a ++ [u]).set a.length (n, u.2) = a ++ [(n, u.2)] := fun n => by simp
              have HSET := hide (fun n => (hst n) ▸ hset n)
              have Hms := hide hms
              have Hcs := hide hcs
              have Hss := hide hss
              have hl2 := hide (show (a ++ [(u.1 + t.1, u.2)]).length ≤ i + 1 by rw [List.length_append, List.length_singleton]; omega)
              clear hset hst eu ev2 hss hcs hms hbs s1 hal h41 h42 ownB hau hli
              have hai : (a.length : Int) < ((a.length + 1 : Nat) : Int) := by omega
              go_upto_region 9 with fail
              go_region
              go_wp2_with fail
              go_roundg (gk - 1)
              case measure => omega
              case rel =>
                have hbn := HSET.out (u.1 + t.1)
                have own8 : OwnL kTerm w2.heap.size (wc.setCell ⟨gs, a.length * 2, none⟩ (.int .i64 (u.1 + t.1))).drew (.slice (some ⟨gs, 0, none⟩) (a ++ [(u.1 + t.1, u.2)]).length c4) (a ++ [(u.1 + t.1, u.2)]) :=
                  blk_own (sp := ss) hbn hBs (by have := Hcs.out; rw [List.length_append, List.length_singleton] at *; exact this) Hms.out (by have := Hss.out; rw [List.length_append, List.length_singleton] at *; exact this)
                rw [List.length_append, List.length_singleton] at own8
                exact ⟨i + 1, a ++ [(u.1 + t.1, u.2)], by go_num, by omega, by omega, hl2.out, hide own8, HM2, (bB2.setCell (p := ⟨gs, a.length * 2, none⟩) hBs _).drew⟩

set_option maxHeartbeats 4000000 in
/-- size.Norm answers a normal form, or the document's fault -/
theorem norm_any {ok : Nat → Prop} {w : World} {v : Value} {l : List Tm} (hl : HTerms ok w v l) :
    Calls Try.prog 8 #[v] w fun e w' => ∃ u c a, e = .returned (.tuple #[u, .agg #[.int .i64 c, .int .i64 a]]) ∧ NormP w.heap.size w' l u c a ∧ Below w.heap.size w w' := by
  obtain ⟨w1, hw1⟩ : ∃ w1, w1 = w.alloc (.cells #[.int .i64 0, .int .i64 0] 30 (0, 0)) := ⟨_, rfl⟩
  have b1 : Below w.heap.size w w1 := by rw [hw1]; exact (Below.refl _ _).alloc (Nat.le_refl _) _
  have K_w1 : w1.heap[w.heap.size]? = some (.cells #[.int .i64 0, .int .i64 0] 30 (0, 0)) := by rw [hw1]; exact heap_new _ _
  have hl1 := hl.keep (w' := w1) b1.size (fun i _ hl => b1.block i hl)
  have hf := faultOf_any hl1
  obtain ⟨ao, cap, rfl, hc1, hc2, hat⟩ := hl.at
  clear hat hl
  go_enter Try.func8, Try.ntmps8
  go_upto_region 1 with fail
  rw [← hw1]
  clear hw1
  go_wp2_with fail
  refine hf.mono ?_
  rintro e w2 ⟨c, a, rfl, hfp, b2⟩
  clear hf
  have K2 := (b2.block _ (lt_of K_w1)).trans K_w1
  have y1 := b1.size
  have B2 := b1.trans (b2.mono y1)
  have hl2 := hl1.keep (w' := w2) b2.size (fun i _ hl => b2.block i hl)
  clear hl1 b1 K_w1 b2 y1
  go_upto_region 2 with fail
  obtain ⟨w3, hw3⟩ : ∃ w3, w3 = w2.alloc (.cells #[.int .i64 c, .int .i64 a] 30 (0, 0)) := ⟨_, rfl⟩
  have b3 : Below w2.heap.size w2 w3 := by rw [hw3]; exact (Below.refl _ _).alloc (Nat.le_refl _) _
  have K_w3 : w3.heap[w2.heap.size]? = some (.cells #[.int .i64 c, .int .i64 a] 30 (0, 0)) := by rw [hw3]; exact heap_new _ _
  rw [← hw3]
  clear hw3
  have K3 := (b3.block _ (lt_of K2)).trans K2
  have y2 := B2.size
  have B3 := B2.trans (b3.mono y2)
  have hl3 := hl2.keep (w' := w3) b3.size (fun i _ hl => b3.block i hl)
  have yk := lt_of K2
  clear hl2 b3 K2 B2
  have d0 := cell_of K_w3 0
  have d1 := cell_of K_w3 1
  simp at d0 d1
  have k0 := cell_of K3 0
  have k1 := cell_of K3 1
  have fk := fun o => free_of K3 o
  simp at k0 k1
  by_cases hc0 : c = 0
  · have hall : l.length ≤ 1000 ∧ (∀ t ∈ l, small t.1 = true) ∧ a = 0 := by
      rcases hfp with ⟨_, e, _⟩ | ⟨_, _, _, _, _, e, _⟩ | ⟨h1, h2, _, h4⟩
      · omega
      · omega
      · exact ⟨h1, h2, h4⟩
    obtain ⟨hl1000, hsm, ha0⟩ := hall
    subst hc0
    subst ha0
    clear hfp
    have hs := sums_any hl3 hl1000 hsm
    have HSM := hide hsm
    clear hsm hl3
    go_wp2_with fail
    refine hs.mono ?_
    rintro e w4 ⟨u, r, rfl, own4, hnf, b4⟩
    have K4 := (b4.block _ (lt_of K3)).trans K3
    have y3 := B3.size
    have B4 := B3.trans (b4.mono y3)
    have HNF := hide hnf
    clear hs hnf k0 k1 fk d0 d1 K_w3
    have k0 := cell_of K4 0
    have k1 := cell_of K4 1
    have fk := fun o => free_of K4 o
    simp at k0 k1
    have hww : w.heap.size < w3.heap.size := lt_of K3
    go_wp2
    have own5 : OwnL kTerm w.heap.size ((w4.setCell ⟨w.heap.size, 0, none⟩ (.int .i64 0)).setCell ⟨w.heap.size, 1, none⟩ (.int .i64 0)) u r := ((own4.set (p := ⟨w.heap.size, 0, none⟩) hww _).set (p := ⟨w.heap.size, 1, none⟩) hww _).lower (by omega)
    exact bodyPost_ret (v := .tuple #[u, .agg #[.int .i64 0, .int .i64 0]]) (by simp [results, Try.results8, go_sem, k0, k1]) rfl ⟨_, _, _, rfl, .inr (.inr ⟨hl1000, HSM.out, rfl, rfl, r, own5, HNF.out⟩), (B4.setCell (p := ⟨w.heap.size, 0, none⟩) (Nat.le_refl _) _).setCell (p := ⟨w.heap.size, 1, none⟩) (Nat.le_refl _) _⟩
  · have hne : (c != 0) = true := by simpa using hc0
    have HFP := hide hfp
    clear hfp hl3
    go_wp2_with fail
    go_region
    go_wp2
    have hNP : ∀ W, NormP w.heap.size W l (.slice none 0 0) c a := fun W => by
      rcases HFP.out with ⟨h1, h2, h3⟩ | ⟨h1, i, h, h2, h3, h4, h5⟩ | ⟨_, _, h, _⟩
      · exact .inl ⟨h1, rfl, h2, h3⟩
      · exact .inr (.inl ⟨h1, i, h, h2, h3, rfl, h4, h5⟩)
      · exact absurd h hc0
    exact bodyPost_ret (v := .tuple #[.slice none 0 0, .agg #[.int .i64 c, .int .i64 a]]) (by simp [results, Try.results8, go_sem, k0, k1]) rfl ⟨_, _, _, rfl, hNP _, ((B3.setCell (p := ⟨w.heap.size, 0, none⟩) (Nat.le_refl _) _).setCell (p := ⟨w.heap.size, 1, none⟩) (Nat.le_refl _) _).drew⟩
end Go.Proofs.Ytjpjedigajiomaa
