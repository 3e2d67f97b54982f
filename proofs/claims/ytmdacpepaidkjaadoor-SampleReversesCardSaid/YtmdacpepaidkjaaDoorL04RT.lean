/- Encodings of samples. No statement is proved here. -/
import Derived.Test.YtmdacpepaidkjaaDoorL04K
namespace Go.Proofs.YtmdacpepaidkjaaDoor
open Go.ChangeShapes Go.WideShapes Go.ChangeAt Go.RowKit
set_option linter.unusedVariables false
set_option linter.unusedSimpArgs false

theorem ed_all {f : List Int → Int} {g : Int → List Int} {s : Nat} {L : List Int} (hgf : ∀ c, Byt c → List.length c = s → g (f c) = c) (hb : Byt L) (m : Nat) (h : m * s = List.length L) : encL g (decL f s L m) m = L := by
  rw [encdec hgf hb m (by omega), h, List.take_length]
theorem ed1 (c : List Int) (hb : Byt c) (hn : List.length c = 1) : enc1 (dec1 c) = c := by
  have h0 := hb.at 0 (by omega)
  obtain ⟨c0, rfl⟩ : ∃ c0, c = [c0] := by
    match c, hn with
    | [c0], _ => exact ⟨c0, rfl⟩

  simp only [List.getD_cons_zero, List.getD_cons_succ] at *
  unfold enc1 dec1
  simp only [List.getD_cons_zero, List.getD_cons_succ, List.cons.injEq, and_true]
  omega
theorem ed2 (c : List Int) (hb : Byt c) (hn : List.length c = 2) : enc2 (dec2 c) = c := by
  have h0 := hb.at 0 (by omega)
  have h1 := hb.at 1 (by omega)
  obtain ⟨c0, c1, rfl⟩ : ∃ c0 c1, c = [c0, c1] := by
    match c, hn with
    | [c0, c1], _ => exact ⟨c0, c1, rfl⟩

  simp only [List.getD_cons_zero, List.getD_cons_succ] at *
  unfold enc2 dec2 sgn
  simp only [List.getD_cons_zero, List.getD_cons_succ, List.cons.injEq, and_true]
  split <;> omega
theorem ed3 (c : List Int) (hb : Byt c) (hn : List.length c = 2) : enc3 (dec3 c) = c := by
  have h0 := hb.at 0 (by omega)
  have h1 := hb.at 1 (by omega)
  obtain ⟨c0, c1, rfl⟩ : ∃ c0 c1, c = [c0, c1] := by
    match c, hn with
    | [c0, c1], _ => exact ⟨c0, c1, rfl⟩

  simp only [List.getD_cons_zero, List.getD_cons_succ] at *
  unfold enc3 dec3 sgn
  simp only [List.getD_cons_zero, List.getD_cons_succ, List.cons.injEq, and_true]
  split <;> omega
theorem ed4 (c : List Int) (hb : Byt c) (hn : List.length c = 3) : enc4 (dec4 c) = c := by
  have h0 := hb.at 0 (by omega)
  have h1 := hb.at 1 (by omega)
  have h2 := hb.at 2 (by omega)
  obtain ⟨c0, c1, c2, rfl⟩ : ∃ c0 c1 c2, c = [c0, c1, c2] := by
    match c, hn with
    | [c0, c1, c2], _ => exact ⟨c0, c1, c2, rfl⟩

  simp only [List.getD_cons_zero, List.getD_cons_succ] at *
  unfold enc4 dec4 sgn
  simp only [List.getD_cons_zero, List.getD_cons_succ, List.cons.injEq, and_true]
  split <;> omega
theorem ed5 (c : List Int) (hb : Byt c) (hn : List.length c = 3) : enc5 (dec5 c) = c := by
  have h0 := hb.at 0 (by omega)
  have h1 := hb.at 1 (by omega)
  have h2 := hb.at 2 (by omega)
  obtain ⟨c0, c1, c2, rfl⟩ : ∃ c0 c1 c2, c = [c0, c1, c2] := by
    match c, hn with
    | [c0, c1, c2], _ => exact ⟨c0, c1, c2, rfl⟩

  simp only [List.getD_cons_zero, List.getD_cons_succ] at *
  unfold enc5 dec5 sgn
  simp only [List.getD_cons_zero, List.getD_cons_succ, List.cons.injEq, and_true]
  split <;> omega
theorem de4 (x : Int) (hx : -8388608 ≤ x ∧ x ≤ 8388607) : dec4 (enc4 x) = x := by
  unfold enc4 dec4 sgn
  simp only [List.getD_cons_zero, List.getD_cons_succ]
  split <;> omega
theorem de5 (x : Int) (hx : -8388608 ≤ x ∧ x ≤ 8388607) : dec5 (enc5 x) = x := by
  unfold enc5 dec5 sgn
  simp only [List.getD_cons_zero, List.getD_cons_succ]
  split <;> omega
theorem de6 (x : Int) (hx : -8388608 ≤ x ∧ x ≤ 8388607) : dec6 (enc6 x) = x := by
  unfold enc6 dec6 sgn
  simp only [List.getD_cons_zero, List.getD_cons_succ]
  unfold satI
  split <;> omega
theorem de7 (x : Int) (hx : -8388608 ≤ x ∧ x ≤ 8388607) : dec7 (enc7 x) = x := by
  unfold enc7 dec7 sgn
  simp only [List.getD_cons_zero, List.getD_cons_succ]
  unfold satI
  split <;> omega
end Go.Proofs.YtmdacpepaidkjaaDoor
