/- Texts of dates: plain mathematics. -/
import Derived.Test.YtpkjgepchincjaaDoorCal
import Derived.Lib.ItoaNum
namespace Go.Proofs.YtpkjgepchincjaaDoor
open Go

/-- A text by its bytes. -/
def bs (l : List UInt8) : ByteArray := ⟨l.toArray⟩
theorem bs_append (a b : List UInt8) : bs a ++ bs b = bs (a ++ b) := by
  apply ByteArray.ext; simp [bs, ByteArray.data_append]
theorem bs_size (a : List UInt8) : (bs a).size = a.length := by simp [bs, ByteArray.size]
theorem bs_list (s : ByteArray) : bs s.data.toList = s := by apply ByteArray.ext; simp [bs]
theorem bs_inj {a b : List UInt8} (h : bs a = bs b) : a = b := by
  have := congrArg (fun s : ByteArray => s.data.toList) h
  simpa [bs] using this
/-- A digit. -/
def dg (k : Nat) : UInt8 := UInt8.ofNat (48 + k)
theorem dg_nat {k : Nat} (h : k < 10) : (dg k).toNat = 48 + k := by
  unfold dg; rw [UInt8.toNat_ofNat']; omega
def two (n : Nat) : List UInt8 := [dg (n / 10), dg (n % 10)]
def four (n : Nat) : List UInt8 := two (n / 100) ++ two (n % 100)
def dtext (y m d : Nat) : List UInt8 := four y ++ [45] ++ two m ++ [45] ++ two d
theorem dtext_len (y m d : Nat) : (dtext y m d).length = 10 := rfl
theorem dec_lt {n : Nat} (h : n < 10) : Lib.decDigits n = [dg n] := by
  unfold Lib.decDigits; rw [dif_pos h]; rfl
theorem dec_ge {n : Nat} (h : ¬ n < 10) : Lib.decDigits n = Lib.decDigits (n / 10) ++ [dg (n % 10)] := by
  rw [Lib.decDigits, dif_neg h]; rfl
def pad (w : Nat) (l : List UInt8) : List UInt8 := List.replicate (w - l.length) 48 ++ l
theorem dg0 : dg 0 = 48 := by decide
theorem pad2 {n : Nat} (h : n < 100) : pad 2 (Lib.decDigits n) = two n := by
  unfold pad two
  by_cases h1 : n < 10
  · rw [dec_lt h1, Nat.div_eq_of_lt h1, Nat.mod_eq_of_lt h1, dg0]; rfl
  · rw [dec_ge h1, dec_lt (by omega)]; rfl
theorem pad4 {n : Nat} (h : n < 10000) : pad 4 (Lib.decDigits n) = four n := by
  unfold pad four two
  by_cases h1 : n < 10
  · rw [dec_lt h1, show n / 100 / 10 = 0 by omega, show n / 100 % 10 = 0 by omega, show n % 100 / 10 = 0 by omega, show n % 100 % 10 = n by omega, dg0]; rfl
  · rw [dec_ge h1]
    by_cases h2 : n < 100
    · rw [dec_lt (by omega), show n / 100 / 10 = 0 by omega, show n / 100 % 10 = 0 by omega, show n % 100 / 10 = n / 10 by omega, show n % 100 % 10 = n % 10 by omega, dg0]; rfl
    · rw [dec_ge (n := n / 10) (by omega)]
      by_cases h3 : n < 1000
      · rw [dec_lt (by omega), show n / 100 / 10 = 0 by omega, show n / 100 % 10 = n / 10 / 10 by omega, show n % 100 / 10 = n / 10 % 10 by omega, show n % 100 % 10 = n % 10 by omega, dg0]; rfl
      · rw [dec_ge (n := n / 10 / 10) (by omega), dec_lt (by omega), show n / 100 / 10 = n / 10 / 10 / 10 by omega, show n / 100 % 10 = n / 10 / 10 % 10 by omega, show n % 100 / 10 = n / 10 % 10 by omega, show n % 100 % 10 = n % 10 by omega]; rfl
/-- The text of a date; nothing for dates that are not valid. -/
def dateL (y m d : Int) : List UInt8 := if valB y m d = true then dtext y.toNat m.toNat d.toNat else []
theorem dateL_t {y m d : Int} (h : valB y m d = true) : dateL y m d = dtext y.toNat m.toNat d.toNat := by unfold dateL; rw [if_pos h]
theorem dateL_f {y m d : Int} (h : valB y m d = false) : dateL y m d = [] := by unfold dateL; rw [h]; rfl
/-- What the program makes of digits. -/
def dsum : List UInt8 → Int
  | [] => 0
  | l => l.foldl (fun a b => a * 10 + (b.toNat : Int) - 48) 0
theorem dsum_snoc (l : List UInt8) (c : UInt8) : dsum (l ++ [c]) = dsum l * 10 + (c.toNat : Int) - 48 := by
  cases l with
  | nil => simp [dsum]
  | cons a r => simp [dsum]
theorem dsum_two {n : Nat} (h : n < 100) : dsum (two n) = n := by
  unfold two dsum
  simp only [List.foldl]
  rw [dg_nat (by omega), dg_nat (by omega)]; omega
theorem dsum_four {n : Nat} (h : n < 10000) : dsum (four n) = n := by
  unfold four two dsum
  simp only [List.foldl, List.cons_append, List.nil_append]
  rw [dg_nat (by omega), dg_nat (by omega), dg_nat (by omega), dg_nat (by omega)]; omega
theorem dsum_bd (l : List UInt8) (n : Nat) (h : l.length ≤ n) (hn : n ≤ 4) : -100000 ≤ dsum l ∧ dsum l ≤ 3000000 := by
  have b : ∀ c : UInt8, 0 ≤ (c.toNat : Int) ∧ (c.toNat : Int) ≤ 255 := fun c => by have := c.toNat_lt; omega
  match l, h with
  | [], _ => simp [dsum]
  | [p], _ => have := b p; simp [dsum]; omega
  | [p, q], _ => have := b p; have := b q; simp [dsum]; omega
  | [p, q, r], _ => have := b p; have := b q; have := b r; simp [dsum]; omega
  | [p, q, r, s], _ => have := b p; have := b q; have := b r; have := b s; simp [dsum]; omega
  | p :: q :: r :: s :: t :: u, h => simp at h; omega
/-- What the model makes of two digits. -/
def pairI (l : List UInt8) : Int := match l with
  | [p, q] => if 48 ≤ p.toNat ∧ p.toNat ≤ 57 ∧ 48 ≤ q.toNat ∧ q.toNat ≤ 57 then 10 * ((p.toNat : Int) - 48) + ((q.toNat : Int) - 48) else -1
  | _ => -1
theorem pair_two {n : Nat} (h : n < 100) : pairI (two n) = n := by
  unfold two
  simp only [pairI]
  rw [dg_nat (by omega), dg_nat (by omega), if_pos (by omega)]; omega
theorem pair_bd (l : List UInt8) : -1 ≤ pairI l ∧ pairI l ≤ 99 := by
  unfold pairI
  split
  · split <;> omega
  · omega
def impY (l : List UInt8) : Int := dsum (l.take 4)
def impM (l : List UInt8) : Int := dsum ((l.drop 5).take 2)
def impD (l : List UInt8) : Int := dsum (l.drop 8)
def spcY (l : List UInt8) : Int := 100 * pairI (l.take 2) + pairI ((l.drop 2).take 2)
def spcM (l : List UInt8) : Int := pairI ((l.drop 5).take 2)
def spcD (l : List UInt8) : Int := pairI (l.drop 8)
theorem read_imp {y m d : Int} (h : valB y m d = true) : impY (dateL y m d) = y ∧ impM (dateL y m d) = m ∧ impD (dateL y m d) = d := by
  have hi := valB_in h
  have hd := dim_le m (leapB y)
  rw [dateL_t h]
  have e1 : (dtext y.toNat m.toNat d.toNat).take 4 = four y.toNat := rfl
  have e2 : ((dtext y.toNat m.toNat d.toNat).drop 5).take 2 = two m.toNat := rfl
  have e3 : (dtext y.toNat m.toNat d.toNat).drop 8 = two d.toNat := rfl
  unfold impY impM impD
  rw [e1, e2, e3, dsum_four (by omega), dsum_two (by omega), dsum_two (by omega)]; omega
theorem read_spc {y m d : Int} (h : valB y m d = true) : spcY (dateL y m d) = y ∧ spcM (dateL y m d) = m ∧ spcD (dateL y m d) = d := by
  have hi := valB_in h
  have hd := dim_le m (leapB y)
  rw [dateL_t h]
  have e1 : (dtext y.toNat m.toNat d.toNat).take 2 = two (y.toNat / 100) := rfl
  have e1' : ((dtext y.toNat m.toNat d.toNat).drop 2).take 2 = two (y.toNat % 100) := rfl
  have e2 : ((dtext y.toNat m.toNat d.toNat).drop 5).take 2 = two m.toNat := rfl
  have e3 : (dtext y.toNat m.toNat d.toNat).drop 8 = two d.toNat := rfl
  unfold spcY spcM spcD
  rw [e1, e1', e2, e3, pair_two (by omega), pair_two (by omega), pair_two (by omega), pair_two (by omega)]; omega
/-- What a text reads as. -/
def ReadIs (l : List UInt8) (y m d : Int) (ok : Bool) : Prop :=
  (ok = true ∧ valB y m d = true ∧ l = dateL y m d) ∨ (ok = false ∧ y = 0 ∧ m = 0 ∧ d = 0 ∧ ∀ y m d, valB y m d = true → l ≠ dateL y m d)
theorem ReadIs.unique {l : List UInt8} {y m d y' m' d' : Int} {ok ok' : Bool} (h : ReadIs l y m d ok) (k : ReadIs l y' m' d' ok') : y = y' ∧ m = m' ∧ d = d' ∧ ok = ok' := by
  rcases h with ⟨rfl, h1, h2⟩ | ⟨rfl, rfl, rfl, rfl, h⟩
  · rcases k with ⟨rfl, k1, k2⟩ | ⟨rfl, rfl, rfl, rfl, k⟩
    · have a := read_imp h1
      have b := read_imp k1
      rw [← h2] at a; rw [← k2] at b
      exact ⟨a.1.symm.trans b.1, a.2.1.symm.trans b.2.1, a.2.2.symm.trans b.2.2, rfl⟩
    · exact absurd h2 (k _ _ _ h1)
  · rcases k with ⟨rfl, k1, k2⟩ | ⟨rfl, rfl, rfl, rfl, k⟩
    · exact absurd k2 (h _ _ _ k1)
    · exact ⟨rfl, rfl, rfl, rfl⟩
theorem dateL_len {y m d : Int} (h : valB y m d = true) : (dateL y m d).length = 10 := by rw [dateL_t h]; rfl
theorem read_short {l : List UInt8} (h : l.length ≠ 10) : ReadIs l 0 0 0 false :=
  .inr ⟨rfl, rfl, rfl, rfl, fun y m d hv e => h (by rw [e]; exact dateL_len hv)⟩
theorem read_yes {l : List UInt8} (h : l.length = 10) {y m d : Int} (e : dateL y m d = l) : ReadIs l y m d true := by
  cases hv : valB y m d
  · rw [dateL_f hv] at e; subst e; simp at h
  · exact .inl ⟨rfl, hv, e.symm⟩
theorem read_no_imp {l : List UInt8} (e : dateL (impY l) (impM l) (impD l) ≠ l) : ReadIs l 0 0 0 false :=
  .inr ⟨rfl, rfl, rfl, rfl, fun y m d hv el => e (by have := read_imp hv; rw [← el] at this; rw [this.1, this.2.1, this.2.2]; exact el.symm)⟩
theorem read_no_spc {l : List UInt8} (e : dateL (spcY l) (spcM l) (spcD l) ≠ l) : ReadIs l 0 0 0 false :=
  .inr ⟨rfl, rfl, rfl, rfl, fun y m d hv el => e (by have := read_spc hv; rw [← el] at this; rw [this.1, this.2.1, this.2.2]; exact el.symm)⟩
end Go.Proofs.YtpkjgepchincjaaDoor
