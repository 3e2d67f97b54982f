/- Rate conversion out of dice. No statement is proved here. -/
import Derived.Test.YtkneaefmjdlegaaZL15
import Derived.Test.YtkneaefmjdlegaaZLMade
namespace Go.Proofs.Ytkneaefmjdlegaa
open Go.ChangeShapes Go.WideShapes Go.ChangeAt Go.RowKit
set_option linter.unusedVariables false
set_option linter.unusedSimpArgs false
theorem X_New (l : List Int) (n : Nat) (hn : List.length l = n) (hb : n ≤ 9223372036854775807) (hy : Byt l) : ∃ (d : List Int), (Byt d) ∧ (List.length d ≤ 300) ∧ (Fun 10 [.c (.d (D.sl (dI .u8 l) n))] (toG []) 0 (rV 0 0) (toG [(0, some (70, .ds [D.sl (dI .u8 d) (List.length d)]))]) 1) := ⟨(List.take (min n 300) l), hy.take _, (by rw [List.length_take]; omega), G_New l n hn hb⟩
theorem X_Next (l : List Int) (n : Int) (hb : Byt l) : ∃ (q : Nat) (d : List Int), ((q : Int) < n ∨ q = 0) ∧ (q ≤ 255) ∧ (Byt d) ∧ (List.length d ≤ List.length l) ∧ (Fun 13 [.c (.ptr 0 0), iE n] (toG [(0, some (70, .ds [D.sl (dI .u8 l) (List.length l)]))]) 1 (iV ((q : Nat) : Int)) (toG [(0, some (70, .ds [D.sl (dI .u8 d) (List.length d)]))]) 1) := ⟨(nextN l n), (nextL l n), (nextV_in l n hb).1, (nextV_in l n hb).2, nextL_byt n hb, nextL_len l n, G_Next l n hb⟩
theorem X_Block (l : List Int) (ch f : Nat) (hb : Byt l) (h1 : 1 ≤ ch) (h8 : ch ≤ 8) (hf : f ≤ 1000) : ∃ (w : List Int) (d : List Int), (ch * f ≤ 8000) ∧ (List.length w = ch * f) ∧ (BV ch f w) ∧ (Byt d) ∧ (Fun 28 [.c (.ptr 0 0), iE ((ch : Nat) : Int), iE ((f : Nat) : Int)] (toG [(0, some (70, .ds [D.sl (dI .u8 l) (List.length l)]))]) 1 (.e (.agg [iC ((ch : Nat) : Int), .own 1 0 (ch * f) 1 true])) (toG [(0, some (70, .ds [D.sl (dI .u8 d) (List.length d)])), (1, some (21, .ds (dI .i32 w)))]) 2) := ⟨(blkV (ch * f) l), (itL (ch * f) l), Nat.le_trans (Nat.mul_le_mul h8 hf) (by omega), blkV_len l (ch * f), blkV_BV hb h1 h8 (by omega), itL_byt hb (ch * f), G_Block l ch f hb h1 h8 hf⟩
theorem PhV.z {n d : Int} (h : phB n d 0 0 0 = true) : PhV n d 0 0 0 := PhV.of h
theorem PhV.adj {n d a a' p f : Int} (h : PhV n d a p f) (ha : -4096 ≤ a' ∧ a' ≤ 4096) : PhV n d a' p f := ⟨h.rat, h.b.1, h.b.2.1, ha, h.b.2.2.2.1, h.b.2.2.2.2⟩
theorem BV.nil {ch : Nat} (h1 : 1 ≤ ch) (h8 : ch ≤ 8) : BV ch 0 [] := ⟨h1, h8, by simp, by decide, fun j hj => absurd hj (Nat.not_lt_zero j)⟩
theorem cv_pos {f s P : Int} (hf : 0 ≤ f ∧ f < P) (hs : 0 ≤ s) (k : Nat) : mvV f s k / P ≤ needV f s P k := by
  by_cases h : k = 0
  · subst h
    rw [mv_0, needV_0, Int.ediv_eq_zero_of_lt hf.1 hf.2]; omega
  · rw [needV_s _ _ _ h]; omega
end Go.Proofs.Ytkneaefmjdlegaa
