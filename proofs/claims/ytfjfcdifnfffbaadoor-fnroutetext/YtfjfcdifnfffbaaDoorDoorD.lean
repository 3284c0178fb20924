/-
  The door seat: two ranges have two texts: the walk of the law.
-/
import Derived.Test.YtfjfcdifnfffbaaDoorLawE0
import Derived.Test.YtfjfcdifnfffbaaDoorDoorB
import Derived.Test.YtfjfcdifnfffbaaDoorDoorM
namespace Go.Proofs.YtfjfcdifnfffbaaDoor
open Go.RowKit
set_option linter.unusedSimpArgs false

theorem if_agg {f g b c : Int} {w : World} : (if f = g then if b = c then Result.ok (Next.value (Value.bool true)) w else Result.ok (Next.value (Value.bool false)) w else Result.ok (Next.value (Value.bool false)) w) = Result.ok (Next.value (Value.bool (decide (f = g ∧ b = c)))) w := by
  by_cases h1 : f = g <;> by_cases h2 : b = c <;> simp [h1, h2]
theorem txt_list (f b : Int) : (txt f b).data.toList = Lib.decDigits f.toNat ++ [47] ++ Lib.decDigits b.toNat := by
  simp [txt, dig, ByteArray.data_append]
theorem rtext_inj {f b g c : Int} (ho : okB f b = true) (hg : okB g c = true) (h : rtext f b = rtext g c) : f = g ∧ b = c := by
  obtain ⟨f0, f1, b0, b8⟩ := okB_in ho
  obtain ⟨g0, g1, c0, c8⟩ := okB_in hg
  rw [rtext, if_pos ho, rtext, if_pos hg] at h
  have k := congrArg (fun s : ByteArray => back s.data.toList) h
  simp only [txt_list] at k
  rw [back_text (by omega) (by omega), back_text (by omega) (by omega)] at k
  simp only [Prod.mk.injEq] at k
  omega

theorem texts_eq {f b g c : Int} (ho : okB f b = true) (hg : okB g c = true) : (((rtext f b).toList == (rtext g c).toList) == (decide (f = g) && decide (b = c))) = true := by
  by_cases h : f = g ∧ b = c
  · obtain ⟨rfl, rfl⟩ := h
    simp
  · have h1 : (decide (f = g) && decide (b = c)) = false := by simp; intro h2; exact fun h3 => h ⟨h2, h3⟩
    have h2 : ((rtext f b).toList == (rtext g c).toList) = false := by
      rw [beq_eq_false_iff_ne]
      intro k
      exact h (rtext_inj ho hg (ByteArray.ext (by simpa [ByteArray.toList_eq] using k)))
    rw [h1, h2]; rfl

end Go.Proofs.YtfjfcdifnfffbaaDoor
