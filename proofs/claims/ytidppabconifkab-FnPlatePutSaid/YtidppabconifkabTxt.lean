/- Texts as lists of bytes. -/
import Derived.Test.YtidppabconifkabHelp
import Derived.Lib.ItoaNum
namespace Go.Proofs.Ytidppabconifkab
open Go Go.ChangeShapes Go.WideShapes Go.ChangeAt Go.RowKit
set_option linter.unusedVariables false

/-- A text by its bytes. -/
def bs (l : List UInt8) : ByteArray := ⟨l.toArray⟩
theorem bs_append (a b : List UInt8) : bs a ++ bs b = bs (a ++ b) := by
  apply ByteArray.ext; simp [bs, ByteArray.data_append]
theorem bs_size (a : List UInt8) : (bs a).size = a.length := by simp [bs, ByteArray.size]
theorem bs_list (s : ByteArray) : bs s.data.toList = s := by apply ByteArray.ext; simp [bs]
theorem bs_inj {a b : List UInt8} (h : bs a = bs b) : a = b := by
  have := congrArg (fun s : ByteArray => s.data.toList) h
  simpa [bs] using this
/-- A digit. -/
def dg (k : Nat) : UInt8 := UInt8.ofNat (48 + k)
theorem dg_nat {k : Nat} (h : k < 10) : (dg k).toNat = 48 + k := by
  unfold dg; rw [UInt8.toNat_ofNat']; omega
theorem dec_lt {n : Nat} (h : n < 10) : Lib.decDigits n = [dg n] := by
  unfold Lib.decDigits; rw [dif_pos h]; rfl
theorem dec_ge {n : Nat} (h : ¬ n < 10) : Lib.decDigits n = Lib.decDigits (n / 10) ++ [dg (n % 10)] := by
  rw [Lib.decDigits, dif_neg h]; rfl
theorem dg0 : dg 0 = 48 := by decide
theorem ret_str {a b : ByteArray} (h : a = b) : Ending.returned (.string a) = .returned (.string b) := by rw [h]
theorem ext_list (s : ByteArray) (a b : Nat) : (s.extract a b).data.toList = (s.data.toList.drop a).take (b - a) := by
  simp [ByteArray.data_extract, List.extract_eq_take_drop]
theorem bs_of {s : ByteArray} {l : List UInt8} (h : s.data.toList = l) : bs l = s := by rw [← h]; exact bs_list s
theorem bs_toList (l : List UInt8) : (bs l).toList = l := by rw [ByteArray.toList_eq]; simp [bs]
theorem bs_ne {l : List UInt8} {s : ByteArray} (h : l ≠ s.data.toList) : (!(bs l).toList == s.toList) = true := by
  rw [bs_toList, ByteArray.toList_eq]; simpa using h
end Go.Proofs.Ytidppabconifkab
