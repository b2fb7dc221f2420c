
/-
  DERIVED. THE WALKS of makeToken, readSign, readWordOrName, readNumber, read.
-/
import Derived.Test.YtfhjejmadhcmnaaDoorLib
import Derived.RegionTactic
namespace Go.Proofs.YtfhjejmadhcmnaaDoor
open Go.RowKit
set_option linter.unusedVariables false
set_option linter.unusedSimpArgs false

def aggT (k a : Int) (s : ByteArray) (n : Int) : Value := .agg #[.int .i64 k, .int .i64 a, .string s, .int .i64 n]

/-- what a call of the readers answers -/
def gotV (g : Tk.Got) : Value := .tuple #[.agg #[.int .i64 g.kind, .int .i64 0, .string ⟨g.text.toArray⟩, .int .i64 g.n], .int .i64 g.code]

theorem mk_toList (s : ByteArray) : (⟨s.data.toList.toArray⟩ : ByteArray) = s := by cases s; simp

theorem mk_take (s : ByteArray) (k : Nat) : (⟨(s.data.toList.take k).toArray⟩ : ByteArray) = s.extract 0 k := by
  apply ByteArray.ext
  rw [ByteArray.data_extract]
  apply Array.toList_inj.1
  simp

theorem extract_list (s : ByteArray) (a b : Nat) : (s.extract a b).data.toList = (s.data.toList.drop a).take (b - a) := by
  rw [ByteArray.data_extract]
  simp

theorem signLen_le (l : List UInt8) : Tk.signLen l ≤ l.length := by
  unfold Tk.signLen
  split
  · simp
  · rename_i c l
    split
    · rename_i h
      cases l with
      | nil => simp at h
      | cons d l => simp
    · split <;> simp

theorem numVal_snoc (l : List UInt8) (c : UInt8) : Tk.numVal (l ++ [c]) = Tk.numVal l * 10 + ((c.toNat : Int) - 48) := by
  simp [Tk.numVal, List.foldl_append]

theorem take_snoc (s : ByteArray) (k : Nat) (h : k < s.size) : s.data.toList.take (k + 1) = s.data.toList.take k ++ [s[k]] := by
  rw [List.take_succ_eq_append_getElem (by simpa using h)]; rfl

theorem numVal_bd (s : ByteArray) : ∀ k : Nat, k ≤ s.size → (∀ j (hj : j < s.data.toList.length), j < k → Tk.isD ((s.data.toList[j]).toNat : Int) = true) → 0 ≤ Tk.numVal (s.data.toList.take k) ∧ Tk.numVal (s.data.toList.take k) < (10 : Int) ^ k
  | 0, _, _ => by simp [Tk.numVal]
  | k + 1, hk, h => by
    have ih := numVal_bd s k (by omega) (fun j hj hjk => h j hj (by omega))
    have hd := h k (by rw [← Lib.size_eq]; omega) (by omega)
    rw [take_snoc s k (by omega), numVal_snoc]
    have e : s.data.toList[k]'(by rw [← Lib.size_eq]; omega) = s[k]'(by omega) := rfl
    rw [e] at hd
    simp [Tk.isD] at hd
    have h10 : (10 : Int) ^ (k + 1) = 10 ^ k * 10 := Int.pow_succ 10 k
    omega

theorem pow_bd : ∀ k : Nat, k ≤ 18 → (10 : Int) ^ k ≤ 1000000000000000000 := by
  intro k hk
  have : (10 : Int) ^ k ≤ 10 ^ 18 := by
    have h := Nat.pow_le_pow_right (n := 10) (by omega) hk
    exact_mod_cast h
  simpa using this


end Go.Proofs.YtfhjejmadhcmnaaDoor
