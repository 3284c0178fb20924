/-
  The door seat: numbers and ranges are told by their texts (no program here).
-/
import Derived.Lib.ItoaNum
import Derived.Lib.ItoaLen
namespace Go.Proofs.YtfjfcdifnfffbaaDoor

def dig3 (n : Nat) : List UInt8 :=
  if n < 10 then [UInt8.ofNat (48 + n)] else if n < 100 then [UInt8.ofNat (48 + n / 10), UInt8.ofNat (48 + n % 10)]
  else [UInt8.ofNat (48 + n / 100), UInt8.ofNat (48 + n / 10 % 10), UInt8.ofNat (48 + n % 10)]
theorem dec3 {n : Nat} (h : n < 1000) : Lib.decDigits n = dig3 n := by
  unfold dig3
  split
  · rw [Lib.decDigits, dif_pos (by omega)]
  · split
    · rw [Lib.decDigits, dif_neg (by omega), Lib.decDigits, dif_pos (by omega)]; rfl
    · rw [Lib.decDigits, dif_neg (by omega), Lib.decDigits, dif_neg (by omega), Lib.decDigits, dif_pos (by omega), Nat.div_div_eq_div_mul]; rfl
def val (l : List UInt8) : Nat := l.foldl (fun a d => 10 * a + (d.toNat - 48)) 0
theorem dig3_ok : ∀ n, n < 256 → val (dig3 n) = n ∧ (dig3 n).all (fun d => d != 47) = true := by decide +kernel
def back (l : List UInt8) : Nat × Nat := (val (l.takeWhile fun d => d != 47), val (l.dropWhile fun d => d != 47).tail)
theorem back_text {m n : Nat} (hm : m < 256) (hn : n < 256) : back (Lib.decDigits m ++ [47] ++ Lib.decDigits n) = (m, n) := by
  rw [dec3 (by omega), dec3 (by omega)]
  obtain ⟨v1, a1⟩ := dig3_ok m hm
  obtain ⟨v2, a2⟩ := dig3_ok n hn
  have p1 : ∀ a ∈ dig3 m, (fun d : UInt8 => d != 47) a = true := by simpa [List.all_eq_true] using a1
  unfold back
  rw [List.append_assoc, List.takeWhile_append_of_pos p1, List.dropWhile_append_of_pos p1]
  simp [v1, v2]
end Go.Proofs.YtfjfcdifnfffbaaDoor
