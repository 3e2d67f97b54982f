/- Samples, silence, pieces of data and two pieces in a row. No statement is proved here. -/
import Derived.Test.YtlelnhapcfjhfaaSf
import Derived.IntWalk
import Derived.Deep.DeepCutAuto
namespace Go.Proofs.Ytlelnhapcfjhfaa
open Go.ChangeShapes Go.WideShapes Go.ChangeAt Go.RowKit
set_option linter.unusedVariables false
set_option linter.unusedSimpArgs false

theorem ret_lb {a b : Bool} (h : a = b) : Ending.returned (.bool a) = .returned (.bool b) := by rw [h]
def Smp (l : List Int) : Prop := ∀ s ∈ l, -8388608 ≤ s ∧ s ≤ 8388607
theorem Smp.wf {l : List Int} (h : Smp l) : ∀ n ∈ l, (Lit.int .i32 n).wf = true := by
  intro n hn
  have h0 := h n hn
  have e : wrap32 n = n := by unfold wrap32; omega
  have h2 := wrap32_wf n
  rw [e] at h2
  exact h2
theorem Smp.append {a b : List Int} (h : Smp a) (k : Smp b) : Smp (a ++ b) := fun s hs => by
  rcases List.mem_append.1 hs with hs | hs
  · exact h s hs
  · exact k s hs
theorem Smp.take {a : List Int} (h : Smp a) (n : Nat) : Smp (a.take n) := fun s hs => h s (List.mem_of_mem_take hs)
theorem Smp.drop {a : List Int} (h : Smp a) (n : Nat) : Smp (a.drop n) := fun s hs => h s (List.mem_of_mem_drop hs)
theorem Smp.zeros (n : Nat) : Smp (List.replicate n 0) := fun s hs => by rw [List.eq_of_mem_replicate hs]; omega
theorem isSample_ok (s : Int) (w : World) (h : -8388608 ≤ s ∧ s ≤ 8388607) : Calls Try.prog 37 #[.int .i32 s] w fun e w' => e = .returned (.bool true) ∧ w = w' := by
  obtain ⟨h0, h1⟩ := h
  go_enter Try.func37, Try.ntmps37
  go_wp2
  all_goals (go_ret; exact ⟨rfl, rfl⟩)
set_option maxHeartbeats 4000000 in
theorem svalid_ok (C f n : Nat) (hC : 1 ≤ C ∧ C ≤ 8) (hf : f ≤ 65536) (hn : n = f * C) (a : Option Addr) (cap : Nat) (l : List Int) (w : World) (hs : Sl .i32 w a n cap l) (hl : Smp l) :
    Calls Try.prog 29 #[.agg #[.int .i64 (C : Int), .slice a n cap]] w fun e w' => e = .returned (.bool true) ∧ Below w.heap.size w w' := by
  subst hn
  have HS := hid hs
  have HB := hid hl
  obtain ⟨c1, c8⟩ := hC
  have hz := hs.1
  have hlen : f * C ≤ 524288 := Nat.le_trans (Nat.mul_le_mul hf c8) (by omega)
  have hmd : ((f * C : Nat) : Int).tmod (C : Int) = 0 := by rw [Int.tmod_eq_emod_of_nonneg (by omega), Int.natCast_mul]; exact Int.mul_emod_left _ _
  have hmd2 : ((f * C : Nat) : Int) % (C : Int) = 0 := by rw [Int.natCast_mul]; exact Int.mul_emod_left _ _
  have hqo : ((f * C : Nat) : Int) / (C : Int) = f := by rw [Int.natCast_mul, Int.mul_ediv_cancel _ (by omega)]
  have hqo2 : ((f * C : Nat) : Int).tdiv (C : Int) = f := by rw [Int.tdiv_eq_ediv_of_nonneg (by omega), hqo]
  have hq2 : (f * C) / C = f := Nat.mul_div_cancel _ (by omega)
  have hm2 : (f * C) % C = 0 := Nat.mul_mod_left _ _
  obtain ⟨n, hn⟩ : ∃ n, f * C = n := ⟨_, rfl⟩
  rw [hn] at HS hz hlen hmd hmd2 hqo hqo2 hq2 hm2 ⊢
  have c0 : ((C : Int) == 0) = false := by simp; omega
  have c9 : ¬ (C : Int) = 0 := by omega
  have d1 : decide ((C : Int) < 1) = false := decide_eq_false (by omega)
  have d2 : decide (8 < (C : Int)) = false := decide_eq_false (by omega)
  have d3 : decide (65536 < (f : Int)) = false := decide_eq_false (by omega)
  have u1 : wrap64 (f : Int) = f := by unfold wrap64; omega
  have HL0 := hid (Lx.alloc (vs := [.int .i64 (C : Int), .slice a n cap]) (T := 26) (Lx.start w))
  clear hs hl hn
  go_enter Try.func29, Try.ntmps29
  go_wp2_with fail
  generalize w.alloc (.cells #[.int .i64 (C : Int), .slice a n cap] 26) = W1 at *
  go_loopw [34] (fun v wr => ∃ k : Nat, k ≤ n ∧ v = .int .i64 k ∧ W1 = wr) (fun v _ => n - (intOf v).toNat)
  case atStart => exact ⟨0, by omega, rfl, rfl⟩
  case round =>
    obtain ⟨k, hk, rfl, rfl⟩ := hrel
    by_cases hlt : k < n
    · have hkb : decide ((k : Int) < (n : Int)) = true := by simp; omega
      have hkz : (k : Int) < (n : Int) := by omega
      rcases (HL0.out.slN HS.out).2.2.2.2.2 with h | ⟨b, off, rfl, hbl, hcs⟩
      · omega
      have g0 := hcs k hlt
      have hmem : l.getD k 0 ∈ l := by rw [List.getD_eq_getElem?_getD, List.getElem?_eq_getElem (by omega)]; exact List.getElem_mem _
      have hx := HB.out _ hmem
      generalize l.getD k 0 = x at *
      have c := hid (fun w => isSample_ok x w hx)
      clear hcs hmem
      go_wp2_with fail
      (with_reducible refine (c.out _).mono ?_); rintro e w2 ⟨rfl, rfl⟩
      clear c
      go_wp2_with fail
      go_roundw
      case rel => exact ⟨k + 1, by omega, by go_num, trivial⟩
      case measure => simp [intOf] <;> omega
    · obtain rfl : k = n := by omega
      have hkb : decide ((k : Int) < (k : Int)) = false := by simp
      go_wp2
      go_ret
      exact ⟨rfl, HL0.out.below⟩
theorem make32 (n : Nat) (h : n ≤ 10000000) : ∀ w : World, (Instr.makeSlice 22 (.int .i64 (n : Int)) (.int .i64 (n : Int))).run Try.prog w = .ok (.slice (some ⟨w.heap.size, 0, none⟩) n n) (w.alloc (.cells ((List.replicate n (0 : Int)).map (Value.int .i32)).toArray 21)) := by
  intro w
  have h := run_make_lc (P := Try.prog) (t := 22) (e := 21) (z := .int .i32 0) (bs := 4) Try.underlying22 (by kernel_rfl) (n : Int) (n : Int) n n rfl rfl (Nat.le_refl _) (by omega) (by omega) w
  have e : madeCells (Value.int .i32 0).cells n = ((List.replicate n (0 : Int)).map (Value.int .i32)).toArray := by
    apply Array.ext'
    rw [List.map_replicate]
    exact toList_madeCells_one (Value.int .i32 0) n
  rw [e] at h
  exact h
set_option maxHeartbeats 4000000 in
theorem silence_ok (C f : Nat) (hC : 1 ≤ C ∧ C ≤ 8) (hf : f ≤ 65536) (w : World) :
    Calls Try.prog 35 #[.int .i64 (C : Int), .int .i64 (f : Int)] w fun e w' => ∃ G, e = .returned (.tuple #[.agg #[.int .i64 (C : Int), .slice (some ⟨G, 0, none⟩) (C * f) (C * f)], .int .i64 0]) ∧ Blk w' G ((List.replicate (C * f) (0 : Int)).map (Value.int .i32)) 21 ∧ w.heap.size ≤ G ∧ Below w.heap.size w w' := by
  obtain ⟨c1, c8⟩ := hC
  have hlen : C * f ≤ 524288 := Nat.le_trans (Nat.mul_le_mul c8 hf) (by omega)
  have d1 : decide ((C : Int) < 1) = false := decide_eq_false (by omega)
  have d2 : decide (8 < (C : Int)) = false := decide_eq_false (by omega)
  have d3 : decide ((f : Int) < 0) = false := decide_eq_false (by omega)
  have d4 : decide (65536 < (f : Int)) = false := decide_eq_false (by omega)
  have e1 : (C : Int) * (f : Int) = ((C * f : Nat) : Int) := (Int.natCast_mul _ _).symm
  have u1 : IntKind.i64.wrap (((C * f : Nat) : Int)) = ((C * f : Nat) : Int) := IntWalk.i64_in _ (by omega)
  obtain ⟨n, hn⟩ : ∃ n, C * f = n := ⟨_, rfl⟩
  rw [hn] at hlen e1 u1 ⊢
  have hmk := make32 n (by omega)
  have hf := ((Lx.start w).alloc (vs := [.int .i64 (C : Int), .slice (some ⟨w.heap.size + 1, 0, none⟩) n n]) (T := 26)).alloc (vs := (List.replicate n (0 : Int)).map (Value.int .i32)) (T := 21)
  simp only [World.size_alloc] at hf
  obtain ⟨Z, hZ⟩ : ∃ Z, (List.replicate n (0 : Int)).map (Value.int .i32) = Z := ⟨_, rfl⟩
  rw [hZ] at hmk hf ⊢
  have HF := hid hf
  clear hn hf hZ
  go_enter Try.func35, Try.ntmps35
  go_wp2_with fail
  refine bodyPost_ret (by simp [results, Try.results35, go_sem]; rfl) rfl ?_
  exact ⟨w.heap.size + 1, rfl, HF.out.blk 0 rfl, by omega, HF.out.below⟩
theorem run_part3 {P : Program} {k : IntKind} {w : World} {t e : TypeId} (hu : P.underlying t = some (.slice e)) (he : P.elem t = e) (hi1 : (P.info? e).map (·.size) = some 1) {a : Option Addr} {n cap : Nat} {l : List Int} (hs : Sl k w a n cap l) (kl kh km : IntKind) (lo hi : Nat) (h1 : lo ≤ hi) (h2 : hi ≤ n) :
    ∃ p q, (∀ w', (Instr.sliceAt t (.slice a n cap) (some (.int kl (lo : Int))) (some (.int kh (hi : Int))) (some (.int km (hi : Int)))).run P w' = .ok (.slice p (hi - lo) q) w') ∧ Sl k w p (hi - lo) q ((l.drop lo).take (hi - lo)) ∧ ∀ ad, p = some ad → ∃ ad0, a = some ad0 ∧ ad.block = ad0.block := by
  have hc : n ≤ cap := hs.2.1
  have hcm : cap ≤ maxLen := hs.2.2.1
  obtain ⟨i, hi2, hi3⟩ := Option.map_eq_some_iff.1 hi1
  have hrun : ∀ w', (Instr.sliceAt t (.slice a n cap) (some (.int kl (lo : Int))) (some (.int kh (hi : Int))) (some (.int km (hi : Int)))).run P w' = .ok (.slice (if hi = lo then a else a.map (·.add lo)) (hi - lo) (hi - lo)) w' := by
    intro w'
    have hu' : P.underlying t = some (.slice (P.elem t)) := by rw [he]; exact hu
    have e1 := run_sliceAt_slice (P := P) (w := w') (t := t) (x := .slice a n cap) (lo := some (.int kl (lo : Int))) (hi := some (.int kh (hi : Int))) (mx := some (.int km (hi : Int))) hu'
    have e2 := run_slice_lhm (P := P) (w := w') (t := t) (a := a) (len := n) (cap := cap) hu' (kl := kl) (kh := kh) (km := km) (l := (lo : Int)) (h := (hi : Int)) (m := (hi : Int)) (by omega) (by omega) (by omega) (by omega)
    rw [e1, e2]
    simp [sizeOf, typeInfo, he, hi2, hi3, sliced, Result.andThen]
  by_cases h0 : hi - lo = 0
  · refine ⟨_, _, hrun, ⟨by simp [h0], by omega, by omega, ?_, ?_, .inl h0⟩, ?_⟩
    · intro x hx; rw [h0] at hx; simp at hx
    · intro _; exact h0
    · intro ad hp
      split at hp
      · exact ⟨ad, hp, rfl⟩
      · cases a with
        | none => cases hp
        | some ad0 => cases hp; exact ⟨ad0, rfl, by unfold Addr.add; split <;> rfl⟩
  · have hcl : ¬ hi = lo := by omega
    rcases hs.2.2.2.2.2 with h | ⟨b, off, rfl, hlt, hcell⟩
    · omega
    · rw [if_neg hcl] at hrun
      refine ⟨some ⟨b, off + lo, none⟩, hi - lo, fun w' => by rw [hrun w']; simp [Addr.add], sl_sub ⟨hs.1, hs.2.1, hs.2.2.1, hs.2.2.2.1, hs.2.2.2.2.1, .inr ⟨b, off, rfl, hlt, hcell⟩⟩ lo (hi - lo) (hi - lo) (by omega) (by omega) (by omega), fun ad h => ⟨_, rfl, by cases h; rfl⟩⟩
set_option maxHeartbeats 4000000 in
theorem cut_any (C f t n : Nat) (hC : C ≤ 8) (hft : f ≤ t) (ht : t * C ≤ n) (hn : n ≤ 10000000) (a : Option Addr) (cap : Nat) (l : List Int) (w : World) (hs : Sl .i32 w a n cap l) :
    Calls Try.prog 32 #[.slice a n cap, .int .i64 (C : Int), .int .i64 (f : Int), .int .i64 (t : Int)] w fun e w' => (∃ p q, e = .returned (.slice p (t * C - f * C) q) ∧ Sl .i32 w p (t * C - f * C) q ((l.drop (f * C)).take (t * C - f * C)) ∧ ∀ ad, p = some ad → ∃ ad0, a = some ad0 ∧ ad.block = ad0.block) ∧ w = w' := by
  have hfc : f * C ≤ t * C := Nat.mul_le_mul_right _ hft
  obtain ⟨p, q, hr, hsl, hp⟩ := run_part3 (P := Try.prog) (t := 22) (e := 21) Try.underlying22 (by kernel_rfl) (by kernel_rfl) hs .i64 .i64 .i64 (f * C) (t * C) hfc ht
  have e1 : (f : Int) * (C : Int) = ((f * C : Nat) : Int) := (Int.natCast_mul _ _).symm
  have e2 : (t : Int) * (C : Int) = ((t * C : Nat) : Int) := (Int.natCast_mul _ _).symm
  have u1 : IntKind.i64.wrap (((f * C : Nat) : Int)) = ((f * C : Nat) : Int) := IntWalk.i64_in _ (by omega)
  have u2 : IntKind.i64.wrap (((t * C : Nat) : Int)) = ((t * C : Nat) : Int) := IntWalk.i64_in _ (by omega)
  have HS := hid hsl
  have HP := hid hp
  obtain ⟨lo, hlo⟩ : ∃ lo, f * C = lo := ⟨_, rfl⟩
  obtain ⟨hi, hhi⟩ : ∃ hi, t * C = hi := ⟨_, rfl⟩
  rw [hlo, hhi] at hr HS
  rw [hlo] at e1 u1
  rw [hhi] at e2 u2
  rw [hlo, hhi]
  have HR := hid hr
  clear hs hsl hp hfc ht hlo hhi hr
  go_enter Try.func32, Try.ntmps32
  have hr := HR.out
  clear HR
  go_wp2_with fail
  go_ret
  exact ⟨⟨p, q, rfl, HS.out, HP.out⟩, rfl⟩
theorem copy_at {P : Program} {k : IntKind} {w1 : World} {dT sT ty elem : TypeId} (hu : P.underlying dT = some (.slice elem)) (hi : (P.info? elem).map (·.size) = some 1)
    {a : Option Addr} {m c : Nat} {l : List Int} (hs : Sl k w1 a m c l) {G o dLen dCap : Nat} {cur : List Value} {T : TypeId} (hg : Blk w1 G cur T) (hfit : o + m ≤ cur.length) (hd : m ≤ dLen) :
    ∃ w2, (Builtin.copy_ #[dT, sT] ty #[.slice (some ⟨G, o, none⟩) dLen dCap, .slice a m c]).run P w1 = .ok (.int .i64 (m : Int)) w2 ∧ Blk w2 G (cur.take o ++ l.map (Value.int k) ++ cur.drop (o + m)) T ∧ Only G w1 w2 := by
  by_cases h0 : m = 0
  · subst h0
    obtain rfl : l = [] := List.eq_nil_of_length_eq_zero hs.1
    exact ⟨w1, run_copy_none (P := P) w1 dT sT ty elem _ a dLen dCap 0 c hu hi (by simp), by simpa using hg, Only.refl _ _⟩
  · rcases hs.2.2.2.2.2 with h | ⟨b, off, rfl, hlt, hc⟩
    · omega
    · have hz := hs.1
      have hr := run_copy_row (P := P) w1 dT sT ty elem G o dLen dCap ⟨b, off, none⟩ m c cur.toArray T (l.map (Value.int k)) hu hi hg (by rw [List.length_map, hz]; exact (Nat.min_eq_left hd).symm) (by
        intro j v hj
        have hjl : j < m := by have := (List.getElem?_eq_some_iff.1 hj).1; simpa [hz] using this
        rw [Addr.add_lit, hc j hjl]
        rw [List.getElem?_map] at hj
        rw [List.getD_eq_getElem?_getD, List.getElem?_eq_getElem (by omega)] at *
        simpa using hj) (by simp [hz]; exact hfit) int_cells_one
      refine ⟨w1.setRow G (cur.take o ++ l.map (Value.int k) ++ cur.drop (o + m)).toArray, by simpa [hz, goInt] using hr, ?_, ⟨rfl, rfl, rfl, by simp [World.setRow], fun k' _ hk => setRow_other w1 G k' _ hk⟩⟩
      exact setRow_heap w1 G cur.toArray (cur.take o ++ l.map (Value.int k) ++ cur.drop (o + m)).toArray T (0, 0) hg
set_option maxHeartbeats 4000000 in
theorem joined_any (p1 : Option Addr) (n1 c1 : Nat) (l1 : List Int) (p2 : Option Addr) (n2 c2 : Nat) (l2 : List Int) (w : World) (h1 : Sl .i32 w p1 n1 c1 l1) (h2 : Sl .i32 w p2 n2 c2 l2) (hn1 : n1 ≤ 1000000) (hn2 : n2 ≤ 1000000) :
    Calls Try.prog 31 #[.slice p1 n1 c1, .slice p2 n2 c2] w fun e w' => ∃ G, e = .returned (.slice (some ⟨G, 0, none⟩) (n1 + n2) (n1 + n2)) ∧ Blk w' G ((l1 ++ l2).map (Value.int .i32)) 21 ∧ w.heap.size ≤ G ∧ Below w.heap.size w w' := by
  have HS1 := hid h1
  have HS2 := hid h2
  have hz1 := h1.1
  have hz2 := h2.1
  have e1 : (n1 : Int) + (n2 : Int) = ((n1 + n2 : Nat) : Int) := (Int.natCast_add _ _).symm
  have u1 : IntKind.i64.wrap (((n1 + n2 : Nat) : Int)) = ((n1 + n2 : Nat) : Int) := IntWalk.i64_in _ (by omega)
  have hmk := make32 (n1 + n2) (by omega)
  have H0 := hid ((Lx.start w).alloc (vs := (List.replicate (n1 + n2) (0 : Int)).map (Value.int .i32)) (T := 21))
  have hsl : ∀ (w' : World) (G : Nat), (Instr.sliceAt 22 (.slice (some ⟨G, 0, none⟩) (n1 + n2) (n1 + n2)) (some (.int .i64 (n1 : Int))) none none).run Try.prog w' = .ok (.slice (some (if n2 = 0 then ⟨G, 0, none⟩ else ⟨G, n1, none⟩)) n2 n2) w' := by
    intro w' G
    have hu' : Try.prog.underlying 22 = some (.slice (Try.prog.elem 22)) := by kernel_rfl
    have e1 := run_sliceAt_slice (P := Try.prog) (w := w') (t := 22) (x := .slice (some ⟨G, 0, none⟩) (n1 + n2) (n1 + n2)) (lo := some (.int .i64 (n1 : Int))) (hi := none) (mx := none) hu'
    have e2 := run_slice_l (P := Try.prog) (w := w') (t := 22) (a := some ⟨G, 0, none⟩) (len := n1 + n2) (cap := n1 + n2) hu' (kl := .i64) (l := (n1 : Int)) (by omega) (by omega)
    obtain ⟨i, hi2, hi3⟩ := Option.map_eq_some_iff.1 (show (Try.prog.info? 21).map (·.size) = some 1 by kernel_rfl)
    rw [e1, e2]
    simp [sizeOf, typeInfo, show Try.prog.elem 22 = 21 by kernel_rfl, hi2, hi3, sliced, Result.andThen]
    split
    · rename_i h; simp [show n2 = 0 by omega]
    · rename_i h; simp [Addr.add, show ¬ n2 = 0 by omega] <;> omega
  have HSL := hid hsl
  obtain ⟨n, hn⟩ : ∃ n, n1 + n2 = n := ⟨_, rfl⟩
  rw [hn] at e1 u1 hmk H0 HSL ⊢
  have HN := hid hn
  obtain ⟨Z, hZ⟩ : ∃ Z, (List.replicate n (0 : Int)).map (Value.int .i32) = Z := ⟨_, rfl⟩
  rw [hZ] at hmk H0
  have HZ := hid (show Z.length = n by rw [← hZ]; simp)
  clear h1 h2 hn hZ hsl
  go_enter Try.func31, Try.ntmps31
  go_upto_region 2 with (fail)
  clear hmk
  generalize w.alloc (.cells Z.toArray 21) = W1 at *
  obtain ⟨G, hG⟩ : ∃ G, w.heap.size = G := ⟨_, rfl⟩
  have hGw : w.heap.size ≤ G := by omega
  simp only [hG] at H0 ⊢
  clear hG
  obtain ⟨W2, hr, hB2, ho2⟩ := copy_at (P := Try.prog) (dT := 22) (sT := 22) (ty := 3) (elem := 21) Try.underlying22 (by kernel_rfl) (H0.out.slN HS1.out) (H0.out.blk 0 rfl) (o := 0) (dLen := n) (dCap := n) (by rw [HZ.out, ← HN.out]; omega) (by rw [← HN.out]; omega)
  have H2 := hid (H0.out.onlySet 0 rfl ho2 hB2)
  simp only [List.set_cons_zero, List.take_zero, List.nil_append, Nat.zero_add] at H2
  clear hB2 ho2
  go_upto_region 3 with (fail)
  clear hr
  obtain ⟨W3, hr, hB3, ho3⟩ := copy_at (P := Try.prog) (dT := 22) (sT := 22) (ty := 3) (elem := 21) Try.underlying22 (by kernel_rfl) (H2.out.slN HS2.out) (H2.out.blk 0 rfl) (o := if n2 = 0 then 0 else n1) (dLen := n2) (dCap := n2) (by simp [HZ.out, ← HN.out, hz1]; split <;> omega) (by omega)
  have H3 := hid (H2.out.onlySet 0 rfl ho3 hB3)
  simp only [List.set_cons_zero] at H3
  have hq : (⟨G, if n2 = 0 then 0 else n1, none⟩ : Addr) = if n2 = 0 then ⟨G, 0, none⟩ else ⟨G, n1, none⟩ := by split <;> rfl
  rw [hq] at hr
  have hsl := HSL.out W2 G
  clear hB3 ho3 HSL
  generalize (if n2 = 0 then (⟨G, 0, none⟩ : Addr) else ⟨G, n1, none⟩) = AD at *
  go_wp2_with fail
  go_ret
  refine ⟨G, rfl, ?_, hGw, H3.out.below⟩
  have h := H3.out.blk 0 rfl
  rw [List.map_append]
  have e9 : List.take (if n2 = 0 then 0 else n1) (List.map (Value.int IntKind.i32) l1 ++ List.drop n1 Z) ++ List.map (Value.int IntKind.i32) l2 ++ List.drop ((if n2 = 0 then 0 else n1) + n2) (List.map (Value.int IntKind.i32) l1 ++ List.drop n1 Z) = List.map (Value.int IntKind.i32) l1 ++ List.map (Value.int IntKind.i32) l2 := by
    have hZ := HZ.out
    have hN := HN.out
    by_cases h0 : n2 = 0
    · subst h0
      obtain rfl : l2 = [] := List.eq_nil_of_length_eq_zero hz2
      have : List.drop n1 Z = [] := List.drop_eq_nil_of_le (by omega)
      simp [this]
    · rw [if_neg h0]
      have e1 : List.take n1 (List.map (Value.int IntKind.i32) l1 ++ List.drop n1 Z) = List.map (Value.int IntKind.i32) l1 := by
        rw [List.take_append_of_le_length (by simp [hz1])]; exact List.take_of_length_le (by simp [hz1])
      have e2 : List.drop (n1 + n2) (List.map (Value.int IntKind.i32) l1 ++ List.drop n1 Z) = [] := List.drop_eq_nil_of_le (by simp [hz1]; omega)
      rw [e1, e2, List.append_nil]
  rw [e9] at h
  exact h
end Go.Proofs.Ytlelnhapcfjhfaa
