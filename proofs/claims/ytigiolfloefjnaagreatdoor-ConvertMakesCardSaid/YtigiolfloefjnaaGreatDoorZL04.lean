/- Samples and blocks. No statement is proved here. -/
import Derived.Test.YtigiolfloefjnaaGreatDoorZAmK
namespace Go.Proofs.YtigiolfloefjnaaGreatDoor
open Go.ChangeShapes Go.WideShapes Go.ChangeAt Go.RowKit
set_option linter.unusedVariables false
set_option linter.unusedSimpArgs false
set_option maxHeartbeats 4000000
set_option maxRecDepth 100000
def smpB (s : Int) : Bool := decide (-8388608 ≤ s ∧ s ≤ 8388607)
theorem smp_yes {s : Int} (h : smpB s = true) : -8388608 ≤ s ∧ s ≤ 8388607 := by unfold smpB at h; exact of_decide_eq_true h
theorem smp_of {s : Int} (h : -8388608 ≤ s ∧ s ≤ 8388607) : smpB s = true := decide_eq_true h
theorem smp_not {s : Int} (h : s < -8388608 ∨ 8388607 < s) : smpB s = false := decide_eq_false (by omega)
def okB (ch : Int) (l : List Int) : Bool := decide (1 ≤ ch ∧ ch ≤ 8 ∧ (l.length : Int) % ch = 0 ∧ (l.length : Int) / ch ≤ 65536) && l.all smpB
theorem all_of {l : List Int} {p : Int → Bool} (h : ∀ j, j < l.length → p (List.getD l j 0) = true) : l.all p = true := by
 rw [List.all_eq_true]
 intro x hx
 obtain ⟨i, hi, rfl⟩ := List.mem_iff_getElem.1 hx
 have := h i hi
 rwa [List.getD_eq_getElem?_getD, List.getElem?_eq_getElem hi] at this
theorem all_at {l : List Int} {p : Int → Bool} (h : l.all p = true) (j : Nat) (hj : j < l.length) : p (List.getD l j 0) = true := by
 rw [List.getD_eq_getElem?_getD, List.getElem?_eq_getElem hj]
 exact List.all_eq_true.1 h _ (List.getElem_mem hj)
theorem okB_t {ch : Int} {l : List Int} {n : Nat} (hn : List.length l = n) (h1 : 1 ≤ ch) (h2 : ch ≤ 8) (h3 : (n : Int) % ch = 0) (h4 : (n : Int) / ch ≤ 65536) (h5 : ∀ j, j < n → smpB (List.getD l j 0) = true) : okB ch l = true := by
 unfold okB
 rw [Bool.and_eq_true]
 exact ⟨decide_eq_true ⟨h1, h2, by rw [hn]; exact h3, by rw [hn]; exact h4⟩, all_of (fun j hj => h5 j (by omega))⟩
theorem okB_f {ch : Int} {l : List Int} {n : Nat} (hn : List.length l = n) (h : ¬ (1 ≤ ch ∧ ch ≤ 8 ∧ (n : Int) % ch = 0 ∧ (n : Int) / ch ≤ 65536)) : okB ch l = false := by
 unfold okB
 rw [hn, decide_eq_false h]; rfl
theorem okB_s {ch : Int} {l : List Int} {n k : Nat} (hn : List.length l = n) (hk : k < n) (h : smpB (List.getD l k 0) = false) : okB ch l = false := by
 cases hb : okB ch l with
 | false => rfl
 | true =>
  unfold okB at hb
  rw [Bool.and_eq_true] at hb
  have := all_at hb.2 k (by omega)
  rw [h] at this; cases this
structure BV (ch f : Nat) (l : List Int) : Prop where
 c1 : 1 ≤ ch
 c8 : ch ≤ 8
 len : List.length l = f * ch
 fit : f ≤ 65536
 smp : ∀ j, j < List.length l → smpB (List.getD l j 0) = true
theorem BV.ok {ch f : Nat} {l : List Int} (h : BV ch f l) : okB ch l = true := by
 obtain ⟨h1, h2, h3, h4, h5⟩ := h
 refine okB_t rfl (by omega) (by omega) ?_ ?_ h5
 ·rw [h3, Int.natCast_mul]; exact Int.mul_emod_left _ _
 ·rw [h3, Int.natCast_mul, Int.mul_ediv_cancel _ (by omega)]; omega
theorem BV.of {c : Int} {l : List Int} (h : okB c l = true) : ∃ ch f : Nat, c = ch ∧ BV ch f l := by
 unfold okB at h
 rw [Bool.and_eq_true] at h
 obtain ⟨h1, h2, h3, h4⟩ := of_decide_eq_true h.1
 refine ⟨c.toNat, ((l.length : Int) / c).toNat, by omega, by omega, by omega, ?_, by omega, fun j hj => all_at h.2 j hj⟩
 have e := Int.mul_ediv_add_emod (l.length : Int) c
 rw [h3] at e
 have h0 : 0 ≤ (l.length : Int) / c := Int.ediv_nonneg (by omega) (by omega)
 have e2 : ((((l.length : Int) / c).toNat * c.toNat : Nat) : Int) = (l.length : Int) := by
  rw [Int.natCast_mul, Int.toNat_of_nonneg h0, Int.toNat_of_nonneg (by omega), Int.mul_comm]; omega
 omega
theorem BV.big {ch f : Nat} {l : List Int} (h : BV ch f l) : f * ch ≤ 524288 := Nat.le_trans (Nat.mul_le_mul h.fit h.c8) (by omega)
theorem BV.quo {ch f : Nat} {l : List Int} (h : BV ch f l) : ((f * ch : Nat) : Int) / (ch : Int) = f := by
 rw [Int.natCast_mul, Int.mul_ediv_cancel _ (by have := h.c1; omega)]
theorem BV.at {ch f : Nat} {l : List Int} (h : BV ch f l) (j : Nat) (hj : j < f * ch) : -8388608 ≤ List.getD l j 0 ∧ List.getD l j 0 ≤ 8388607 := smp_yes (h.smp j (by rw [h.len]; exact hj))
def sameL (l m : List Int) : Bool := decide (l = m)
theorem sameL_rfl (l : List Int) : sameL l l = true := decide_eq_true rfl
theorem sameL_n {l m : List Int} (h : ¬ List.length l = List.length m) : sameL l m = false := decide_eq_false (fun e => h (by rw [e]))
theorem sameL_x {l m : List Int} {k : Nat} (h : ¬ List.getD l k 0 = List.getD m k 0) : sameL l m = false := decide_eq_false (fun e => h (by rw [e]))
theorem sameL_y {l m : List Int} (h : List.length l = List.length m) (h2 : ∀ j, j < List.length l → List.getD l j 0 = List.getD m j 0) : sameL l m = true := decide_eq_true (by
 apply List.ext_getElem h
 intro i h3 h4
 have := h2 i h3
 rwa [List.getD_eq_getElem?_getD, List.getD_eq_getElem?_getD, List.getElem?_eq_getElem h3, List.getElem?_eq_getElem h4] at this)
theorem sameL_of {l m : List Int} (h : sameL l m = true) : l = m := of_decide_eq_true h
def satI (n : Int) : Int := min (max n (-8388608)) 8388607
theorem satI_smp (n : Int) : -8388608 ≤ satI n ∧ satI n ≤ 8388607 := by unfold satI; omega
theorem zl041 {p : Prop} (h : p := by first | exact smp_of (by omega) | exact smp_not (by omega)) : p := h
theorem G_isSample (s : Int)  : Fun 92 [.c (.d (D.lit (.int .i32 s)))] (toG []) 0 (.e (.c (.d (D.lit (.bool (smpB s)))))) (toG []) 0 := by
 refine Fun.mk (n := 9) Tryz.func92 rfl rfl (Nat.le_of_ble_eq_true rfl) ?_
 intro cx hcx
 refine zr [.no] [0] [] True [(0, .e (.c (.d (D.lit (.int .i32 s)))))] [] 0 trivial ?_
 by_cases hx1 : (((-8388608) : Int) ≤ s)
 ·by_cases hx2 : (s ≤ 8388607)
  ·refine zr [.no, .b true, .no, .no, .b true, .no, .no] [2] [] (((((-8388608) : Int) ≤ s)) ∧ ((s ≤ 8388607))) [(2, .e (.c (.d (D.lit (.bool true)))))] [] 0 ⟨zo, zo⟩ ?_
   refine AW.ret ?_
   exact EndP.of (.inr rfl) [] (P := ((smpB s) = true)) zk zl041
  ·refine zr [.no, .b true, .no, .no, .b false, .no, .no] [2] [] (((((-8388608) : Int) ≤ s)) ∧ (¬ (s ≤ 8388607))) [(2, .e (.c (.d (D.lit (.bool false)))))] [] 0 ⟨zo, zo⟩ ?_
   refine AW.ret ?_
   exact EndP.of (.inr rfl) [] (P := ((smpB s) = false)) zk zl041
 ·refine zr [.no, .b false, .no, .no, .no] [2] [] (¬ (((-8388608) : Int) ≤ s)) [(2, .e (.c (.d (D.lit (.bool false)))))] [] 0 zo ?_
  refine AW.ret ?_
  exact EndP.of (.inr rfl) [] (P := ((smpB s) = false)) zk zl041
theorem G_rsample (s : Int)  : Fun 87 [.c (.d (D.lit (.int .i32 s)))] (toG []) 0 (.e (.c (.d (D.lit (.bool (smpB s)))))) (toG []) 0 := by
 refine Fun.mk (n := 9) Tryz.func87 rfl rfl (Nat.le_of_ble_eq_true rfl) ?_
 intro cx hcx
 refine zr [.no] [0] [] True [(0, .e (.c (.d (D.lit (.int .i32 s)))))] [] 0 trivial ?_
 by_cases hx1 : (((-8388608) : Int) ≤ s)
 ·by_cases hx2 : (s ≤ 8388607)
  ·refine zr [.no, .b true, .no, .no, .b true, .no, .no] [2] [] (((((-8388608) : Int) ≤ s)) ∧ ((s ≤ 8388607))) [(2, .e (.c (.d (D.lit (.bool true)))))] [] 0 ⟨zo, zo⟩ ?_
   refine AW.ret ?_
   exact EndP.of (.inr rfl) [] (P := ((smpB s) = true)) zk zl041
  ·refine zr [.no, .b true, .no, .no, .b false, .no, .no] [2] [] (((((-8388608) : Int) ≤ s)) ∧ (¬ (s ≤ 8388607))) [(2, .e (.c (.d (D.lit (.bool false)))))] [] 0 ⟨zo, zo⟩ ?_
   refine AW.ret ?_
   exact EndP.of (.inr rfl) [] (P := ((smpB s) = false)) zk zl041
 ·refine zr [.no, .b false, .no, .no, .no] [2] [] (¬ (((-8388608) : Int) ≤ s)) [(2, .e (.c (.d (D.lit (.bool false)))))] [] 0 zo ?_
  refine AW.ret ?_
  exact EndP.of (.inr rfl) [] (P := ((smpB s) = false)) zk zl041
theorem G_Sat (n : Int) (h : -9223372036854775808 ≤ n ∧ n ≤ 9223372036854775807) : Fun 111 [iE n] (toG []) 0 (.e (.c (.d (D.lit (.int .i32 (satI n)))))) (toG []) 0 := by
 refine Fun.mk (n := 7) Tryz.func111 rfl rfl (Nat.le_of_ble_eq_true rfl) ?_
 intro cx hcx
 refine zr [.no] [0] [] True [(0, iV n)] [] 0 trivial ?_
 refine zr [.no, .no, .no, .w, .no] [2] [] ((-2147483648) ≤ (min (max n (-8388608)) 8388607) ∧ (min (max n (-8388608)) 8388607) ≤ 2147483647) [(2, .e (.c (.d (D.lit (.int .i32 (min (max n (-8388608)) 8388607))))))] [] 0 ⟨by omega, by omega⟩ ?_
 refine AW.ret ?_
 exact EndP.of (.inr rfl) [] (P := (((satI n) : Int) = (min (max n (-8388608)) 8388607))) zk (by unfold satI; omega)
theorem zl042 {p : Prop} (h : p := by first | omega | assumption | simp) : p := h
theorem zl040 {p : Prop} (h : p := by first | omega | (rw [dI_len]; omega) | (simp [dI_len] <;> omega) | rfl) : p := h
theorem G_Valid (ch : Int) (l : List Int) (n : Nat) (hn : List.length l = n) (hm : n ≤ 100000000000000) : Fun 70 [.agg [iC ch, .d (D.sl (dI .i32 l) n)]] (toG []) 0 (.e (.c (.d (D.lit (.bool (okB ch l)))))) (toG []) 0 := by
 refine Fun.mk (n := 42) Tryz.func70 rfl rfl (Nat.le_of_ble_eq_true rfl) ?_
 intro cx hcx
 refine zr [.no, .no] [1] [0] True [(1, rV 0 0)] [(0, some (77, .ds [iD ch, dm l n]))] 1 trivial ?_
 refine AW.seq ?_
 by_cases hx1 : (ch < 1)
 ·refine zr [.no, .no, .b true, .no, .no, .no, .no, .no, .no] [1, 30] [0] ((ch < 1)) [(1, rV 0 0), (30, .e (.c (.d (D.lit (.bool true)))))] [(0, some (77, .ds [iD ch, dm l n]))] 1 zo ?_
  refine zt ?_
  refine zr [.no] [2] [] True [(2, .e (.c (.d (D.lit (.bool false)))))] [] 1 trivial ?_
  refine AW.ret ?_
  exact EndP.of (.inr rfl) [] (P := ((okB ch l) = false)) zk (by first | exact okB_t hn zo zo zo zo (fun j hj => ha j zo) | exact okB_f hn zo | exact okB_s (k := k) hn zo (by assumption))
 ·by_cases hx2 : ((8 : Int) < ch)
  ·refine zr [.no, .no, .b false, .no, .no, .no, .b true, .no, .no, .no, .no, .no] [1, 30] [0] ((¬ (ch < 1)) ∧ (((8 : Int) < ch))) [(1, rV 0 0), (30, .e (.c (.d (D.lit (.bool true)))))] [(0, some (77, .ds [iD ch, dm l n]))] 1 ⟨zo, zo⟩ ?_
   refine zt ?_
   refine zr [.no] [2] [] True [(2, .e (.c (.d (D.lit (.bool false)))))] [] 1 trivial ?_
   refine AW.ret ?_
   exact EndP.of (.inr rfl) [] (P := ((okB ch l) = false)) zk (by first | exact okB_t hn zo zo zo zo (fun j hj => ha j zo) | exact okB_f hn zo | exact okB_s (k := k) hn zo (by assumption))
  ·by_cases hx3 : ((((n : Nat) : Int) % ch) ≠ 0)
   ·refine zr [.no, .no, .b false, .no, .no, .no, .b false, .no, .no, .no, .no, .no, .no, .no, .ps, .b true, .no, .no, .no] [1, 30] [0] ((¬ (ch < 1)) ∧ (¬ ((8 : Int) < ch)) ∧ ((0 : Int) ≤ (((n : Nat) : Int) : Int)) ∧ ((0 : Int) < (ch : Int)) ∧ (((((n : Nat) : Int) % ch) ≠ 0))) [(1, rV 0 0), (30, .e (.c (.d (D.lit (.bool true)))))] [(0, some (77, .ds [iD ch, dm l n]))] 1 ⟨zo, zo, zo, zo, zo⟩ ?_
    refine zt ?_
    refine zr [.no] [2] [] True [(2, .e (.c (.d (D.lit (.bool false)))))] [] 1 trivial ?_
    refine AW.ret ?_
    exact EndP.of (.inr rfl) [] (P := ((okB ch l) = false)) zk (by first | exact okB_t hn zo zo zo zo (fun j hj => ha j zo) | exact okB_f hn zo | exact okB_s (k := k) hn zo (by assumption))
   ·by_cases hx4 : ((65536 : Int) < (((n : Nat) : Int) / ch))
    ·refine zr [.no, .no, .b false, .no, .no, .no, .b false, .no, .no, .no, .no, .no, .no, .no, .ps, .b false, .no, .no, .no, .no, .no, .no, .no, .ps, .b true, .no] [1, 30] [0] ((¬ (ch < 1)) ∧ (¬ ((8 : Int) < ch)) ∧ ((0 : Int) ≤ (((n : Nat) : Int) : Int)) ∧ ((0 : Int) < (ch : Int)) ∧ (¬ ((((n : Nat) : Int) % ch) ≠ 0)) ∧ ((0 : Int) ≤ (((n : Nat) : Int) : Int)) ∧ ((0 : Int) < (ch : Int)) ∧ ((-9223372036854775808) ≤ ((n : Nat) : Int) ∧ ((n : Nat) : Int) ≤ 9223372036854775807) ∧ (((65536 : Int) < (((n : Nat) : Int) / ch)))) [(1, rV 0 0), (30, .e (.c (.d (D.lit (.bool true)))))] [(0, some (77, .ds [iD ch, dm l n]))] 1 ⟨zo, zo, zo, zo, zo, zo, zo, ⟨by omega, by omega⟩, zo⟩ ?_
     refine zt ?_
     refine zr [.no] [2] [] True [(2, .e (.c (.d (D.lit (.bool false)))))] [] 1 trivial ?_
     refine AW.ret ?_
     exact EndP.of (.inr rfl) [] (P := ((okB ch l) = false)) zk (by first | exact okB_t hn zo zo zo zo (fun j hj => ha j zo) | exact okB_f hn zo | exact okB_s (k := k) hn zo (by assumption))
    ·refine zr [.no, .no, .b false, .no, .no, .no, .b false, .no, .no, .no, .no, .no, .no, .no, .ps, .b false, .no, .no, .no, .no, .no, .no, .no, .ps, .b false, .no] [1, 30] [0] ((¬ (ch < 1)) ∧ (¬ ((8 : Int) < ch)) ∧ ((0 : Int) ≤ (((n : Nat) : Int) : Int)) ∧ ((0 : Int) < (ch : Int)) ∧ (¬ ((((n : Nat) : Int) % ch) ≠ 0)) ∧ ((0 : Int) ≤ (((n : Nat) : Int) : Int)) ∧ ((0 : Int) < (ch : Int)) ∧ ((-9223372036854775808) ≤ ((n : Nat) : Int) ∧ ((n : Nat) : Int) ≤ 9223372036854775807) ∧ (¬ ((65536 : Int) < (((n : Nat) : Int) / ch)))) [(1, rV 0 0), (30, .e (.c (.d (D.lit (.bool false)))))] [(0, some (77, .ds [iD ch, dm l n]))] 1 ⟨zo, zo, zo, zo, zo, zo, zo, ⟨by omega, by omega⟩, zo⟩ ?_
     refine zfs ?_
     refine AW.seq ?_
     refine zr [.no, .no, .no, .no] [32, 33, 34] [] True [(32, .e (.c (.d (dm l n)))), (33, uV n), (34, iV 0)] [] 1 trivial ?_
     refine AW.block ?_
     refine AW.loopE 0 hcx (fun (x : {x : Nat // match x with | k => (k ≤ n) ∧ (∀ j, j < k → smpB (List.getD l j 0) = true)}) => match x with | ⟨k, _⟩ => (⟨[(32, .e (.c (.d (dm l n)))), (33, uV n), (34, uV k)], [], 1⟩ : ES)) (fun (x : {x : Nat // match x with | k => (k ≤ n) ∧ (∀ j, j < k → smpB (List.getD l j 0) = true)}) => match x with | ⟨k, _⟩ => n - k) ⟨(0 : Nat), (show ((0 : Nat) ≤ n) ∧ (∀ j, j < (0 : Nat) → smpB (List.getD l j 0) = true) from ⟨zl042, (fun j hj => absurd hj (Nat.not_lt_zero j))⟩)⟩ [] (P := (((dI .i32 l) : List D) = (dI .i32 l)) ∧ ((n : Nat) = n) ∧ ((((n : Nat) : Int) : Int) = ((n : Nat) : Int)) ∧ ((0 : Int) = 0)) zk ⟨rfl, rfl, rfl, rfl⟩ ?_
     rintro ⟨k, hinv0⟩
     obtain ⟨hk, ha⟩ : (k ≤ n) ∧ (∀ j, j < k → smpB (List.getD l j 0) = true) := hinv0
     refine AW.es (l := [(32, .e (.c (.d (dm l n)))), (33, uV n), (34, uV k)]) (g := []) (nx := 1) rfl rfl rfl ?_
     by_cases hx5 : (((k : Nat) : Int) < ((n : Nat) : Int))
     ·refine zr [.b true] [32, 33, 34, 35] [] ((((k : Nat) : Int) < ((n : Nat) : Int))) [(32, .e (.c (.d (dm l n)))), (33, uV n), (34, uV k), (35, .e (.c (.d (D.lit (.bool true)))))] [] 1 zo ?_
      refine AW.seq ?_
      refine zts ?_
      refine AW.seq ?_
      refine AW.block ?_
      refine zr [.n k, .d (D.lit (.int .i32 (List.getD l k 0))), .no] [4, 32, 33, 34] [] (((((k : Nat) : Int) : Int) = ((k : Nat) : Int)) ∧ (k < n) ∧ ((List.drop k (dI .i32 l))[0]? = some (D.lit (.int .i32 (List.getD l k 0))))) [(4, .e (.c (.d (D.lit (.int .i32 (List.getD l k 0)))))), (32, .e (.c (.d (dm l n)))), (33, uV n), (34, uV k)] [] 1 ⟨rfl, zo, (dI_at _ _ _ zl040)⟩ ?_
      rcases Bool.eq_false_or_eq_true (smpB (List.getD l k 0)) with hx6 | hx6
      ·refine zr [.no, .call [] (.e (.c (.d (D.lit (.bool true))))) [] 0 [] none, .no] [32, 33, 34, 40] [] (Fun 92 [.c (.d (D.lit (.int .i32 (List.getD l k 0))))] (toG []) 0 (.e (.c (.d (D.lit (.bool true))))) (toG []) 0) [(32, .e (.c (.d (dm l n)))), (33, uV n), (34, uV k), (40, .e (.c (.d (D.lit (.bool false)))))] [] 1 (by have h0 := (G_isSample (List.getD l k 0)); rw [hx6] at h0; exact h0) ?_
       refine zfs ?_
       refine zg [.w, .no] [32, 33, 34] [] ((-9223372036854775808) ≤ (((k : Nat) : Int) + 1) ∧ (((k : Nat) : Int) + 1) ≤ 9223372036854775807) [(32, .e (.c (.d (dm l n)))), (33, uV n), (34, iV (↑k + 1))] [] 1 ⟨by omega, by omega⟩ ?_
       exact Rd.of ⟨((k + 1) : Nat), (show ((k + 1) ≤ n) ∧ (∀ j, j < (k + 1) → smpB (List.getD l j 0) = true) from ⟨zl042, (fun j hj => (Nat.lt_succ_iff_lt_or_eq.1 hj).elim (ha j) (fun e9 => by subst e9; assumption))⟩)⟩ [] (P := (((dI .i32 l) : List D) = (dI .i32 l)) ∧ ((n : Nat) = n) ∧ ((((n : Nat) : Int) : Int) = ((n : Nat) : Int)) ∧ (((((k + 1) : Nat) : Int) : Int) = (((k : Nat) : Int) + 1))) zk ⟨rfl, rfl, rfl, (by first | rfl | omega | assumption | (simp; done) | (simp; omega))⟩ (show n - (k + 1) < n - k from (by first | omega | (show _ < _; simp; omega)))
      ·refine zr [.no, .call [] (.e (.c (.d (D.lit (.bool false))))) [] 0 [] none, .no] [32, 33, 34, 40] [] (Fun 92 [.c (.d (D.lit (.int .i32 (List.getD l k 0))))] (toG []) 0 (.e (.c (.d (D.lit (.bool false))))) (toG []) 0) [(32, .e (.c (.d (dm l n)))), (33, uV n), (34, uV k), (40, .e (.c (.d (D.lit (.bool true)))))] [] 1 (by have h0 := (G_isSample (List.getD l k 0)); rw [hx6] at h0; exact h0) ?_
       refine zt ?_
       refine zr [.no] [2] [] True [(2, .e (.c (.d (D.lit (.bool false)))))] [] 1 trivial ?_
       refine AW.ret ?_
       exact EndP.of (.inr rfl) [] (P := ((okB ch l) = false)) zk (by first | exact okB_t hn zo zo zo zo (fun j hj => ha j zo) | exact okB_f hn zo | exact okB_s (k := k) hn zo (by assumption))
     ·refine zr [.b false] [32, 33, 34, 35] [] (¬ (((k : Nat) : Int) < ((n : Nat) : Int))) [(32, .e (.c (.d (dm l n)))), (33, uV n), (34, uV k), (35, .e (.c (.d (D.lit (.bool false)))))] [] 1 zo ?_
      refine AW.seq ?_
      refine zf ?_
      refine AW.exit ?_
      refine zr [.no] [2] [] True [(2, .e (.c (.d (D.lit (.bool true)))))] [] 1 trivial ?_
      refine AW.ret ?_
      exact EndP.of (.inr rfl) [] (P := ((okB ch l) = true)) zk (by first | exact okB_t hn zo zo zo zo (fun j hj => ha j zo) | exact okB_f hn zo | exact okB_s (k := k) hn zo (by assumption))
theorem G_rValid (ch : Int) (l : List Int) (n : Nat) (hn : List.length l = n) (hm : n ≤ 100000000000000) : Fun 73 [.agg [iC ch, .d (D.sl (dI .i32 l) n)]] (toG []) 0 (.e (.c (.d (D.lit (.bool (okB ch l)))))) (toG []) 0 := by
 refine Fun.mk (n := 42) Tryz.func73 rfl rfl (Nat.le_of_ble_eq_true rfl) ?_
 intro cx hcx
 refine zr [.no, .no] [1] [0] True [(1, rV 0 0)] [(0, some (77, .ds [iD ch, dm l n]))] 1 trivial ?_
 refine AW.seq ?_
 by_cases hx1 : (ch < 1)
 ·refine zr [.no, .no, .b true, .no, .no, .no, .no, .no, .no] [1, 30] [0] ((ch < 1)) [(1, rV 0 0), (30, .e (.c (.d (D.lit (.bool true)))))] [(0, some (77, .ds [iD ch, dm l n]))] 1 zo ?_
  refine zt ?_
  refine zr [.no] [2] [] True [(2, .e (.c (.d (D.lit (.bool false)))))] [] 1 trivial ?_
  refine AW.ret ?_
  exact EndP.of (.inr rfl) [] (P := ((okB ch l) = false)) zk (by first | exact okB_t hn zo zo zo zo (fun j hj => ha j zo) | exact okB_f hn zo | exact okB_s (k := k) hn zo (by assumption))
 ·by_cases hx2 : ((8 : Int) < ch)
  ·refine zr [.no, .no, .b false, .no, .no, .no, .b true, .no, .no, .no, .no, .no] [1, 30] [0] ((¬ (ch < 1)) ∧ (((8 : Int) < ch))) [(1, rV 0 0), (30, .e (.c (.d (D.lit (.bool true)))))] [(0, some (77, .ds [iD ch, dm l n]))] 1 ⟨zo, zo⟩ ?_
   refine zt ?_
   refine zr [.no] [2] [] True [(2, .e (.c (.d (D.lit (.bool false)))))] [] 1 trivial ?_
   refine AW.ret ?_
   exact EndP.of (.inr rfl) [] (P := ((okB ch l) = false)) zk (by first | exact okB_t hn zo zo zo zo (fun j hj => ha j zo) | exact okB_f hn zo | exact okB_s (k := k) hn zo (by assumption))
  ·by_cases hx3 : ((((n : Nat) : Int) % ch) ≠ 0)
   ·refine zr [.no, .no, .b false, .no, .no, .no, .b false, .no, .no, .no, .no, .no, .no, .no, .ps, .b true, .no, .no, .no] [1, 30] [0] ((¬ (ch < 1)) ∧ (¬ ((8 : Int) < ch)) ∧ ((0 : Int) ≤ (((n : Nat) : Int) : Int)) ∧ ((0 : Int) < (ch : Int)) ∧ (((((n : Nat) : Int) % ch) ≠ 0))) [(1, rV 0 0), (30, .e (.c (.d (D.lit (.bool true)))))] [(0, some (77, .ds [iD ch, dm l n]))] 1 ⟨zo, zo, zo, zo, zo⟩ ?_
    refine zt ?_
    refine zr [.no] [2] [] True [(2, .e (.c (.d (D.lit (.bool false)))))] [] 1 trivial ?_
    refine AW.ret ?_
    exact EndP.of (.inr rfl) [] (P := ((okB ch l) = false)) zk (by first | exact okB_t hn zo zo zo zo (fun j hj => ha j zo) | exact okB_f hn zo | exact okB_s (k := k) hn zo (by assumption))
   ·by_cases hx4 : ((65536 : Int) < (((n : Nat) : Int) / ch))
    ·refine zr [.no, .no, .b false, .no, .no, .no, .b false, .no, .no, .no, .no, .no, .no, .no, .ps, .b false, .no, .no, .no, .no, .no, .no, .no, .ps, .b true, .no] [1, 30] [0] ((¬ (ch < 1)) ∧ (¬ ((8 : Int) < ch)) ∧ ((0 : Int) ≤ (((n : Nat) : Int) : Int)) ∧ ((0 : Int) < (ch : Int)) ∧ (¬ ((((n : Nat) : Int) % ch) ≠ 0)) ∧ ((0 : Int) ≤ (((n : Nat) : Int) : Int)) ∧ ((0 : Int) < (ch : Int)) ∧ ((-9223372036854775808) ≤ ((n : Nat) : Int) ∧ ((n : Nat) : Int) ≤ 9223372036854775807) ∧ (((65536 : Int) < (((n : Nat) : Int) / ch)))) [(1, rV 0 0), (30, .e (.c (.d (D.lit (.bool true)))))] [(0, some (77, .ds [iD ch, dm l n]))] 1 ⟨zo, zo, zo, zo, zo, zo, zo, ⟨by omega, by omega⟩, zo⟩ ?_
     refine zt ?_
     refine zr [.no] [2] [] True [(2, .e (.c (.d (D.lit (.bool false)))))] [] 1 trivial ?_
     refine AW.ret ?_
     exact EndP.of (.inr rfl) [] (P := ((okB ch l) = false)) zk (by first | exact okB_t hn zo zo zo zo (fun j hj => ha j zo) | exact okB_f hn zo | exact okB_s (k := k) hn zo (by assumption))
    ·refine zr [.no, .no, .b false, .no, .no, .no, .b false, .no, .no, .no, .no, .no, .no, .no, .ps, .b false, .no, .no, .no, .no, .no, .no, .no, .ps, .b false, .no] [1, 30] [0] ((¬ (ch < 1)) ∧ (¬ ((8 : Int) < ch)) ∧ ((0 : Int) ≤ (((n : Nat) : Int) : Int)) ∧ ((0 : Int) < (ch : Int)) ∧ (¬ ((((n : Nat) : Int) % ch) ≠ 0)) ∧ ((0 : Int) ≤ (((n : Nat) : Int) : Int)) ∧ ((0 : Int) < (ch : Int)) ∧ ((-9223372036854775808) ≤ ((n : Nat) : Int) ∧ ((n : Nat) : Int) ≤ 9223372036854775807) ∧ (¬ ((65536 : Int) < (((n : Nat) : Int) / ch)))) [(1, rV 0 0), (30, .e (.c (.d (D.lit (.bool false)))))] [(0, some (77, .ds [iD ch, dm l n]))] 1 ⟨zo, zo, zo, zo, zo, zo, zo, ⟨by omega, by omega⟩, zo⟩ ?_
     refine zfs ?_
     refine AW.seq ?_
     refine zr [.no, .no, .no, .no] [32, 33, 34] [] True [(32, .e (.c (.d (dm l n)))), (33, uV n), (34, iV 0)] [] 1 trivial ?_
     refine AW.block ?_
     refine AW.loopE 0 hcx (fun (x : {x : Nat // match x with | k => (k ≤ n) ∧ (∀ j, j < k → smpB (List.getD l j 0) = true)}) => match x with | ⟨k, _⟩ => (⟨[(32, .e (.c (.d (dm l n)))), (33, uV n), (34, uV k)], [], 1⟩ : ES)) (fun (x : {x : Nat // match x with | k => (k ≤ n) ∧ (∀ j, j < k → smpB (List.getD l j 0) = true)}) => match x with | ⟨k, _⟩ => n - k) ⟨(0 : Nat), (show ((0 : Nat) ≤ n) ∧ (∀ j, j < (0 : Nat) → smpB (List.getD l j 0) = true) from ⟨zl042, (fun j hj => absurd hj (Nat.not_lt_zero j))⟩)⟩ [] (P := (((dI .i32 l) : List D) = (dI .i32 l)) ∧ ((n : Nat) = n) ∧ ((((n : Nat) : Int) : Int) = ((n : Nat) : Int)) ∧ ((0 : Int) = 0)) zk ⟨rfl, rfl, rfl, rfl⟩ ?_
     rintro ⟨k, hinv0⟩
     obtain ⟨hk, ha⟩ : (k ≤ n) ∧ (∀ j, j < k → smpB (List.getD l j 0) = true) := hinv0
     refine AW.es (l := [(32, .e (.c (.d (dm l n)))), (33, uV n), (34, uV k)]) (g := []) (nx := 1) rfl rfl rfl ?_
     by_cases hx5 : (((k : Nat) : Int) < ((n : Nat) : Int))
     ·refine zr [.b true] [32, 33, 34, 35] [] ((((k : Nat) : Int) < ((n : Nat) : Int))) [(32, .e (.c (.d (dm l n)))), (33, uV n), (34, uV k), (35, .e (.c (.d (D.lit (.bool true)))))] [] 1 zo ?_
      refine AW.seq ?_
      refine zts ?_
      refine AW.seq ?_
      refine AW.block ?_
      refine zr [.n k, .d (D.lit (.int .i32 (List.getD l k 0))), .no] [4, 32, 33, 34] [] (((((k : Nat) : Int) : Int) = ((k : Nat) : Int)) ∧ (k < n) ∧ ((List.drop k (dI .i32 l))[0]? = some (D.lit (.int .i32 (List.getD l k 0))))) [(4, .e (.c (.d (D.lit (.int .i32 (List.getD l k 0)))))), (32, .e (.c (.d (dm l n)))), (33, uV n), (34, uV k)] [] 1 ⟨rfl, zo, (dI_at _ _ _ zl040)⟩ ?_
      rcases Bool.eq_false_or_eq_true (smpB (List.getD l k 0)) with hx6 | hx6
      ·refine zr [.no, .call [] (.e (.c (.d (D.lit (.bool true))))) [] 0 [] none, .no] [32, 33, 34, 40] [] (Fun 87 [.c (.d (D.lit (.int .i32 (List.getD l k 0))))] (toG []) 0 (.e (.c (.d (D.lit (.bool true))))) (toG []) 0) [(32, .e (.c (.d (dm l n)))), (33, uV n), (34, uV k), (40, .e (.c (.d (D.lit (.bool false)))))] [] 1 (by have h0 := (G_rsample (List.getD l k 0)); rw [hx6] at h0; exact h0) ?_
       refine zfs ?_
       refine zg [.w, .no] [32, 33, 34] [] ((-9223372036854775808) ≤ (((k : Nat) : Int) + 1) ∧ (((k : Nat) : Int) + 1) ≤ 9223372036854775807) [(32, .e (.c (.d (dm l n)))), (33, uV n), (34, iV (↑k + 1))] [] 1 ⟨by omega, by omega⟩ ?_
       exact Rd.of ⟨((k + 1) : Nat), (show ((k + 1) ≤ n) ∧ (∀ j, j < (k + 1) → smpB (List.getD l j 0) = true) from ⟨zl042, (fun j hj => (Nat.lt_succ_iff_lt_or_eq.1 hj).elim (ha j) (fun e9 => by subst e9; assumption))⟩)⟩ [] (P := (((dI .i32 l) : List D) = (dI .i32 l)) ∧ ((n : Nat) = n) ∧ ((((n : Nat) : Int) : Int) = ((n : Nat) : Int)) ∧ (((((k + 1) : Nat) : Int) : Int) = (((k : Nat) : Int) + 1))) zk ⟨rfl, rfl, rfl, (by first | rfl | omega | assumption | (simp; done) | (simp; omega))⟩ (show n - (k + 1) < n - k from (by first | omega | (show _ < _; simp; omega)))
      ·refine zr [.no, .call [] (.e (.c (.d (D.lit (.bool false))))) [] 0 [] none, .no] [32, 33, 34, 40] [] (Fun 87 [.c (.d (D.lit (.int .i32 (List.getD l k 0))))] (toG []) 0 (.e (.c (.d (D.lit (.bool false))))) (toG []) 0) [(32, .e (.c (.d (dm l n)))), (33, uV n), (34, uV k), (40, .e (.c (.d (D.lit (.bool true)))))] [] 1 (by have h0 := (G_rsample (List.getD l k 0)); rw [hx6] at h0; exact h0) ?_
       refine zt ?_
       refine zr [.no] [2] [] True [(2, .e (.c (.d (D.lit (.bool false)))))] [] 1 trivial ?_
       refine AW.ret ?_
       exact EndP.of (.inr rfl) [] (P := ((okB ch l) = false)) zk (by first | exact okB_t hn zo zo zo zo (fun j hj => ha j zo) | exact okB_f hn zo | exact okB_s (k := k) hn zo (by assumption))
     ·refine zr [.b false] [32, 33, 34, 35] [] (¬ (((k : Nat) : Int) < ((n : Nat) : Int))) [(32, .e (.c (.d (dm l n)))), (33, uV n), (34, uV k), (35, .e (.c (.d (D.lit (.bool false)))))] [] 1 zo ?_
      refine AW.seq ?_
      refine zf ?_
      refine AW.exit ?_
      refine zr [.no] [2] [] True [(2, .e (.c (.d (D.lit (.bool true)))))] [] 1 trivial ?_
      refine AW.ret ?_
      exact EndP.of (.inr rfl) [] (P := ((okB ch l) = true)) zk (by first | exact okB_t hn zo zo zo zo (fun j hj => ha j zo) | exact okB_f hn zo | exact okB_s (k := k) hn zo (by assumption))
theorem getD_rep (n j : Nat) (x : Int) : List.getD (List.replicate n x) j x = x := by
 rw [List.getD_eq_getElem?_getD, List.getElem?_replicate]; split <;> rfl
theorem BV.zero {ch f : Nat} (h1 : 1 ≤ ch) (h2 : ch ≤ 8) (h3 : f ≤ 65536) : BV ch f (List.replicate (ch * f) 0) :=
 ⟨h1, h2, by rw [List.length_replicate, Nat.mul_comm], h3, fun j hj => by rw [getD_rep]; rfl⟩
theorem getD_app_l {l m : List Int} {j : Nat} (h : j < l.length) : List.getD (l ++ m) j 0 = List.getD l j 0 := by
 rw [List.getD_eq_getElem?_getD, List.getD_eq_getElem?_getD, List.getElem?_append_left h]
theorem getD_app_r {l m : List Int} {j : Nat} (h : l.length ≤ j) : List.getD (l ++ m) j 0 = List.getD m (j - l.length) 0 := by
 rw [List.getD_eq_getElem?_getD, List.getD_eq_getElem?_getD, List.getElem?_append_right h]
theorem getD_take {l : List Int} {n j : Nat} (h : j < n) : List.getD (List.take n l) j 0 = List.getD l j 0 := by
 rw [List.getD_eq_getElem?_getD, List.getD_eq_getElem?_getD, List.getElem?_take, if_pos h]
theorem getD_drop {l : List Int} {n j : Nat} : List.getD (List.drop n l) j 0 = List.getD l (n + j) 0 := by
 rw [List.getD_eq_getElem?_getD, List.getD_eq_getElem?_getD, List.getElem?_drop]
theorem G_SameData (l m : List Int) (n k : Nat) (hn : List.length l = n) (hk : List.length m = k) (hb : n ≤ 100000000000000) (hb2 : k ≤ 100000000000000) : Fun 68 [.c (.d (D.sl (dI .i32 l) n)), .c (.d (D.sl (dI .i32 m) k))] (toG []) 0 (.e (.c (.d (D.lit (.bool (sameL l m)))))) (toG []) 0 := by
 refine Fun.mk (n := 26) Tryz.func68 rfl rfl (Nat.le_of_ble_eq_true rfl) ?_
 intro cx hcx
 refine zr [.no] [0, 1] [] True [(0, .e (.c (.d (dm l n)))), (1, .e (.c (.d (dm m k))))] [] 0 trivial ?_
 refine AW.seq ?_
 by_cases hx1 : (((n : Nat) : Int) ≠ ((k : Nat) : Int))
 ·refine zr [.no, .no, .no, .no, .b true] [0, 1, 10] [] ((((n : Nat) : Int) ≠ ((k : Nat) : Int))) [(0, .e (.c (.d (dm l n)))), (1, .e (.c (.d (dm m k)))), (10, .e (.c (.d (D.lit (.bool true)))))] [] 0 zo ?_
  refine zt ?_
  refine zr [.no] [4] [] True [(4, .e (.c (.d (D.lit (.bool false)))))] [] 0 trivial ?_
  refine AW.ret ?_
  exact EndP.of (.inr rfl) [] (P := ((sameL l m) = false)) zk (by first | exact sameL_n zo | exact sameL_x (by assumption) | exact sameL_y zo (fun j hj => ha j zo))
 ·refine zr [.no, .no, .no, .no, .b false] [0, 1, 10] [] (¬ (((n : Nat) : Int) ≠ ((k : Nat) : Int))) [(0, .e (.c (.d (dm l n)))), (1, .e (.c (.d (dm m k)))), (10, .e (.c (.d (D.lit (.bool false)))))] [] 0 zo ?_
  refine zfs ?_
  refine AW.seq ?_
  refine zr [.no, .no, .no] [0, 1, 12, 13] [] True [(0, .e (.c (.d (dm l n)))), (1, .e (.c (.d (dm m k)))), (12, uV n), (13, iV 0)] [] 0 trivial ?_
  refine AW.block ?_
  refine AW.loopE 0 hcx (fun (x : {x : Nat // match x with | i => (i ≤ n) ∧ (∀ j, j < i → List.getD l j 0 = List.getD m j 0)}) => match x with | ⟨i, _⟩ => (⟨[(0, .e (.c (.d (dm l n)))), (1, .e (.c (.d (dm m k)))), (12, uV n), (13, uV i)], [], 0⟩ : ES)) (fun (x : {x : Nat // match x with | i => (i ≤ n) ∧ (∀ j, j < i → List.getD l j 0 = List.getD m j 0)}) => match x with | ⟨i, _⟩ => n - i) ⟨(0 : Nat), (show ((0 : Nat) ≤ n) ∧ (∀ j, j < (0 : Nat) → List.getD l j 0 = List.getD m j 0) from ⟨zl042, (fun j hj => absurd hj (Nat.not_lt_zero j))⟩)⟩ [] (P := (((dI .i32 l) : List D) = (dI .i32 l)) ∧ ((n : Nat) = n) ∧ (((dI .i32 m) : List D) = (dI .i32 m)) ∧ ((k : Nat) = k) ∧ ((((n : Nat) : Int) : Int) = ((n : Nat) : Int)) ∧ ((0 : Int) = 0)) zk ⟨rfl, rfl, rfl, rfl, rfl, rfl⟩ ?_
  rintro ⟨i, hinv0⟩
  obtain ⟨hi, ha⟩ : (i ≤ n) ∧ (∀ j, j < i → List.getD l j 0 = List.getD m j 0) := hinv0
  refine AW.es (l := [(0, .e (.c (.d (dm l n)))), (1, .e (.c (.d (dm m k)))), (12, uV n), (13, uV i)]) (g := []) (nx := 0) rfl rfl rfl ?_
  by_cases hx2 : (((i : Nat) : Int) < ((n : Nat) : Int))
  ·refine zr [.b true] [0, 1, 12, 13, 14] [] ((((i : Nat) : Int) < ((n : Nat) : Int))) [(0, .e (.c (.d (dm l n)))), (1, .e (.c (.d (dm m k)))), (12, uV n), (13, uV i), (14, .e (.c (.d (D.lit (.bool true)))))] [] 0 zo ?_
   refine AW.seq ?_
   refine zts ?_
   refine AW.seq ?_
   refine AW.block ?_
   refine zr [.no, .no] [0, 1, 5, 12, 13] [] True [(0, .e (.c (.d (dm l n)))), (1, .e (.c (.d (dm m k)))), (5, uV i), (12, uV n), (13, uV i)] [] 0 trivial ?_
   by_cases hx3 : ((List.getD l i 0) ≠ (List.getD m i 0))
   ·refine zr [.no, .no, .n i, .d (D.lit (.int .i32 (List.getD l i 0))), .no, .no, .n i, .d (D.lit (.int .i32 (List.getD m i 0))), .b true] [0, 1, 12, 13, 24] [] (((((i : Nat) : Int) : Int) = ((i : Nat) : Int)) ∧ (i < n) ∧ ((List.drop i (dI .i32 l))[0]? = some (D.lit (.int .i32 (List.getD l i 0)))) ∧ ((((i : Nat) : Int) : Int) = ((i : Nat) : Int)) ∧ (i < k) ∧ ((List.drop i (dI .i32 m))[0]? = some (D.lit (.int .i32 (List.getD m i 0)))) ∧ (((List.getD l i 0) ≠ (List.getD m i 0)))) [(0, .e (.c (.d (dm l n)))), (1, .e (.c (.d (dm m k)))), (12, uV n), (13, uV i), (24, .e (.c (.d (D.lit (.bool true)))))] [] 0 ⟨rfl, zo, (dI_at _ _ _ zl040), rfl, zo, (dI_at _ _ _ zl040), zo⟩ ?_
    refine zt ?_
    refine zr [.no] [4] [] True [(4, .e (.c (.d (D.lit (.bool false)))))] [] 0 trivial ?_
    refine AW.ret ?_
    exact EndP.of (.inr rfl) [] (P := ((sameL l m) = false)) zk (by first | exact sameL_n zo | exact sameL_x (by assumption) | exact sameL_y zo (fun j hj => ha j zo))
   ·refine zr [.no, .no, .n i, .d (D.lit (.int .i32 (List.getD l i 0))), .no, .no, .n i, .d (D.lit (.int .i32 (List.getD m i 0))), .b false] [0, 1, 12, 13, 24] [] (((((i : Nat) : Int) : Int) = ((i : Nat) : Int)) ∧ (i < n) ∧ ((List.drop i (dI .i32 l))[0]? = some (D.lit (.int .i32 (List.getD l i 0)))) ∧ ((((i : Nat) : Int) : Int) = ((i : Nat) : Int)) ∧ (i < k) ∧ ((List.drop i (dI .i32 m))[0]? = some (D.lit (.int .i32 (List.getD m i 0)))) ∧ (¬ ((List.getD l i 0) ≠ (List.getD m i 0)))) [(0, .e (.c (.d (dm l n)))), (1, .e (.c (.d (dm m k)))), (12, uV n), (13, uV i), (24, .e (.c (.d (D.lit (.bool false)))))] [] 0 ⟨rfl, zo, (dI_at _ _ _ zl040), rfl, zo, (dI_at _ _ _ zl040), zo⟩ ?_
    refine zfs ?_
    refine zg [.w, .no] [0, 1, 12, 13] [] ((-9223372036854775808) ≤ (((i : Nat) : Int) + 1) ∧ (((i : Nat) : Int) + 1) ≤ 9223372036854775807) [(0, .e (.c (.d (dm l n)))), (1, .e (.c (.d (dm m k)))), (12, uV n), (13, iV (↑i + 1))] [] 0 ⟨by omega, by omega⟩ ?_
    exact Rd.of ⟨((i + 1) : Nat), (show ((i + 1) ≤ n) ∧ (∀ j, j < (i + 1) → List.getD l j 0 = List.getD m j 0) from ⟨zl042, (fun j hj => (Nat.lt_succ_iff_lt_or_eq.1 hj).elim (ha j) (fun e9 => by subst e9; omega))⟩)⟩ [] (P := (((dI .i32 l) : List D) = (dI .i32 l)) ∧ ((n : Nat) = n) ∧ (((dI .i32 m) : List D) = (dI .i32 m)) ∧ ((k : Nat) = k) ∧ ((((n : Nat) : Int) : Int) = ((n : Nat) : Int)) ∧ (((((i + 1) : Nat) : Int) : Int) = (((i : Nat) : Int) + 1))) zk ⟨rfl, rfl, rfl, rfl, rfl, (by first | rfl | omega | assumption | (simp; done) | (simp; omega))⟩ (show n - (i + 1) < n - i from (by first | omega | (show _ < _; simp; omega)))
  ·refine zr [.b false] [0, 1, 12, 13, 14] [] (¬ (((i : Nat) : Int) < ((n : Nat) : Int))) [(0, .e (.c (.d (dm l n)))), (1, .e (.c (.d (dm m k)))), (12, uV n), (13, uV i), (14, .e (.c (.d (D.lit (.bool false)))))] [] 0 zo ?_
   refine AW.seq ?_
   refine zf ?_
   refine AW.exit ?_
   refine zr [.no] [4] [] True [(4, .e (.c (.d (D.lit (.bool true)))))] [] 0 trivial ?_
   refine AW.ret ?_
   exact EndP.of (.inr rfl) [] (P := ((sameL l m) = true)) zk (by first | exact sameL_n zo | exact sameL_x (by assumption) | exact sameL_y zo (fun j hj => ha j zo))
end Go.Proofs.YtigiolfloefjnaaGreatDoor
