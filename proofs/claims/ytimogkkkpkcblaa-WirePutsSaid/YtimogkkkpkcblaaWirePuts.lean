/- WirePuts: the walk. No statement is proved here. -/
import Derived.Test.YtimogkkkpkcblaaWireConcat
import Derived.Test.YtimogkkkpkcblaaWireSane
import Derived.Test.YtimogkkkpkcblaaFactsG
import Derived.Deep.DeepCutAuto
namespace Go.Proofs.Ytimogkkkpkcblaa
open Go.ChangeShapes Go.WideShapes Go.ChangeAt Go.RowKit
set_option linter.unusedVariables false
set_option linter.unusedSimpArgs false

theorem wp_region_factsT {P : Program} {ops : List Oper} {id : Nat} {a0 : Act} {w0 : World} {Q : Exit → Act → World → Prop} (val : Nat → Option Bool) (I : World → Prop) (F : Nat → Value → World → Prop)
    (hm : P.follows .mixedOrders = true) (hp : guardOps ops = true) (hd : (ops.all fun o => match o.dst with | some t => decide (t < a0.tmps.size) | none => true) = true) (hI : I w0.drew)
    (hval : ∀ g b, val g = some b → ∀ u w, F g u w → u = .bool b) (hgv : (ops.all fun o => match o.guard with | some (g, _) => (val g).isSome | none => true) = true)
    (hstep : StepsG P val ops a0 I F Q 0 ops)
    (hend : ∀ a w, a.tmps.size = a0.tmps.size → a.defers = a0.defers → (∀ t, farSlot ops t = true → a.tmps[t]? = a0.tmps[t]?) → I w → (∀ j o, ops[j]? = some o → F j (slotOf a o) w) → Q .normal a w) :
    (Code.region id ops.toArray true).wp P Q a0 w0 :=
  wp_region_factsG val I F hm hp hd hI hval (fun g o o' b _ hom hg hn => by
    rw [List.all_eq_true] at hgv
    have := hgv o' hom
    simp [hg, hn] at this) hstep hend
theorem tmp_get {a : Act} {t : Tmp} {v : Value} (h : a.eval (.tmp t) = v) (ht : t < a.tmps.size) : a.tmps[t] = v := by
  rw [← h]; simp [Act.eval, ht]
theorem wp_conv {P : Program} {a : Act} {w : World} {op : Oper} {K : Act → World → Prop} {Q : Exit → Act → World → Prop} {s d : TypeId} (x : Operand) (ho : op.op = .convert s d x) (v r : Value) (hx : a.eval x = v) (hr : (convert s d v).run P w = .ok r w) (hK : K (a.put op.dst r) w) : op.wp P a w K Q := by
  refine wp_value r ?_ hK
  unfold execOp
  simp only [ho, hx, Sem.run_bind, hr, Result.andThen_ok, Sem.run_pure]
def MS (w : World) (v : Value) (L : List Int) : Prop := ∃ a m c, v = .slice a m c ∧ Sl .u8 w a m c L
theorem MS.below {w w' : World} {v : Value} {L : List Int} (h : MS w v L) (hb : Below w.heap.size w w') : MS w' v L := by
  obtain ⟨a, m, c, e, hs⟩ := h; exact ⟨a, m, c, e, hs.below hb⟩
theorem MS.of {B : Nat} {w : World} {v : Value} {L : List Int} (h : Made B .u8 w v L) : MS w v L := by
  obtain ⟨a, c, e, hs, _⟩ := h; exact ⟨a, _, c, e, hs⟩
def gval (g : Nat) : Option Bool := if g = 11 ∨ g = 24 ∨ g = 35 ∨ g = 42 then some true else none
theorem Put32w_any (a : Option Addr) (len cap : Nat) (l : List Int) (n : Nat) (hn : n < 4294967296) (w : World) (hs : Sl .u8 w a len cap l) (hlen : len ≤ 100000) :
    Calls Try.prog 14 #[.slice a len cap, .int .u32 n] w fun e w' => ∃ v, e = .returned v ∧ Hid (Made w.heap.size .u8 w' v (l ++ le n 4)) ∧ Below w.heap.size w w' := by
  go_enter Try.func14, Try.ntmps14
  go_wp2_with (go_at_call 33; refine (put32_any a len cap l n hn w hs hlen).mono ?_; rintro e w' ⟨v, rfl, hv, hb⟩)
  go_ret
  exact ⟨_, rfl, by assumption, by assumption⟩
theorem Put64w_any (a : Option Addr) (len cap : Nat) (l : List Int) (n : Nat) (hn : Hid (n < 18446744073709551616)) (w : World) (hs : Sl .u8 w a len cap l) (hlen : len ≤ 100000) :
    Calls Try.prog 16 #[.slice a len cap, .int .u64 n] w fun e w' => ∃ v, e = .returned v ∧ Hid (Made w.heap.size .u8 w' v (l ++ le n 8)) ∧ Below w.heap.size w w' := by
  go_enter Try.func16, Try.ntmps16
  go_wp2_with (go_at_call 34; refine (put64_any a len cap l n hn.out w hs hlen).mono ?_; rintro e w' ⟨v, rfl, hv, hb⟩)
  go_ret
  exact ⟨_, rfl, by assumption, by assumption⟩
theorem rPut16_any (a : Option Addr) (len cap : Nat) (l : List Int) (n : Nat) (hn : n < 65536) (w : World) (hs : Sl .u8 w a len cap l) (hlen : len ≤ 100000) :
    Calls Try.prog 13 #[.slice a len cap, .int .u16 n] w fun e w' => ∃ v, e = .returned v ∧ Hid (Made w.heap.size .u8 w' v (l ++ le n 2)) ∧ Below w.heap.size w w' := by
  have c := hid (rput_any a len cap l n 2 (by omega) w hs hlen)
  clear hs
  go_enter Try.func13, Try.ntmps13
  go_wp2_with (go_at_call 31; refine c.out.mono ?_; rintro e w' ⟨v, rfl, hv, hb⟩)
  go_ret
  exact ⟨_, rfl, by assumption, by assumption⟩
theorem enter_w16 : ∀ (ar : Array Value) (w : World), (callFunc 12 ar).run Try.prog w = .ok (.enter 12 ar) w := by
  intro ar w
  kernel_rfl
theorem enter_r16 : ∀ (ar : Array Value) (w : World), (callFunc 13 ar).run Try.prog w = .ok (.enter 13 ar) w := by
  intro ar w
  kernel_rfl
theorem rPut32_any (a : Option Addr) (len cap : Nat) (l : List Int) (n : Nat) (hn : n < 4294967296) (w : World) (hs : Sl .u8 w a len cap l) (hlen : len ≤ 100000) :
    Calls Try.prog 15 #[.slice a len cap, .int .u32 n] w fun e w' => ∃ v, e = .returned v ∧ Hid (Made w.heap.size .u8 w' v (l ++ le n 4)) ∧ Below w.heap.size w w' := by
  have c := hid (rput_any a len cap l n 4 (by omega) w hs hlen)
  clear hs
  go_enter Try.func15, Try.ntmps15
  go_wp2_with (go_at_call 31; refine c.out.mono ?_; rintro e w' ⟨v, rfl, hv, hb⟩)
  go_ret
  exact ⟨_, rfl, by assumption, by assumption⟩
theorem enter_w32 : ∀ (ar : Array Value) (w : World), (callFunc 14 ar).run Try.prog w = .ok (.enter 14 ar) w := by
  intro ar w
  kernel_rfl
theorem enter_r32 : ∀ (ar : Array Value) (w : World), (callFunc 15 ar).run Try.prog w = .ok (.enter 15 ar) w := by
  intro ar w
  kernel_rfl
theorem rPut64_any (a : Option Addr) (len cap : Nat) (l : List Int) (n : Nat) (hn : n < 18446744073709551616) (w : World) (hs : Sl .u8 w a len cap l) (hlen : len ≤ 100000) :
    Calls Try.prog 17 #[.slice a len cap, .int .u64 n] w fun e w' => ∃ v, e = .returned v ∧ Hid (Made w.heap.size .u8 w' v (l ++ le n 8)) ∧ Below w.heap.size w w' := by
  have c := hid (rput_any a len cap l n 8 (by omega) w hs hlen)
  clear hs
  go_enter Try.func17, Try.ntmps17
  go_wp2_with (go_at_call 31; refine c.out.mono ?_; rintro e w' ⟨v, rfl, hv, hb⟩)
  go_ret
  exact ⟨_, rfl, by assumption, by assumption⟩
theorem enter_w64 : ∀ (ar : Array Value) (w : World), (callFunc 16 ar).run Try.prog w = .ok (.enter 16 ar) w := by
  intro ar w
  kernel_rfl
theorem enter_r64 : ∀ (ar : Array Value) (w : World), (callFunc 17 ar).run Try.prog w = .ok (.enter 17 ar) w := by
  intro ar w
  kernel_rfl
def FW (a : Option Addr) (len cap n : Nat) (L16 L32 L64 : List Int) (S16 S32 S64 St : ByteArray) (vt vu : Value) (E : Int) : Nat → Value → World → Prop
  | 0, v, w => v = .slice a len cap
  | 1, v, w => v = .int .u64 (n : Int)
  | 2, v, w => v = .int .u16 ((n % 65536 : Nat) : Int)
  | 3, v, w => MS w v L16
  | 4, v, w => v = .string S16
  | 5, v, w => v = .slice a len cap
  | 6, v, w => v = .int .u64 (n : Int)
  | 7, v, w => v = .int .u16 ((n % 65536 : Nat) : Int)
  | 8, v, w => MS w v L16
  | 9, v, w => v = .string S16
  | 10, v, w => v = .bool true
  | 11, v, w => v = .bool true
  | 12, v, w => v = .slice a len cap
  | 13, v, w => v = .int .u64 (n : Int)
  | 14, v, w => v = .int .u32 ((n % 4294967296 : Nat) : Int)
  | 15, v, w => MS w v L32
  | 16, v, w => v = .string S32
  | 17, v, w => v = .slice a len cap
  | 18, v, w => v = .int .u64 (n : Int)
  | 19, v, w => v = .int .u32 ((n % 4294967296 : Nat) : Int)
  | 20, v, w => MS w v L32
  | 21, v, w => v = .string S32
  | 22, v, w => v = .bool true
  | 23, v, w => v = .bool true
  | 24, v, w => v = .bool true
  | 25, v, w => v = .slice a len cap
  | 26, v, w => v = .int .u64 (n : Int)
  | 27, v, w => MS w v L64
  | 28, v, w => v = .string S64
  | 29, v, w => v = .slice a len cap
  | 30, v, w => v = .int .u64 (n : Int)
  | 31, v, w => MS w v L64
  | 32, v, w => v = .string S64
  | 33, v, w => v = .bool true
  | 34, v, w => v = .bool true
  | 35, v, w => v = .bool true
  | 36, v, w => v = vt
  | 37, v, w => v = .string St
  | 38, v, w => v = vu
  | 39, v, w => v = .string St
  | 40, v, w => v = .bool true
  | 41, v, w => v = .bool true
  | 42, v, w => v = .bool true
  | 43, v, w => v = .int .i64 E
  | 44, v, w => v = .int .i64 E
  | 45, v, w => v = .bool true
  | 46, v, w => v = .bool true
  | 47, v, w => v = .bool true
  | _, _, _ => True
theorem FW_below {a : Option Addr} {len cap n : Nat} {L16 L32 L64 : List Int} {S16 S32 S64 St : ByteArray} {vt vu : Value} {E : Int} {w w' : World} (h : Below w.heap.size w w') (j : Nat) (u : Value) (hf : FW a len cap n L16 L32 L64 S16 S32 S64 St vt vu E j u w) : FW a len cap n L16 L32 L64 S16 S32 S64 St vt vu E j u w' := by
  unfold FW at *
  split at hf
  all_goals first
    | exact hf
    | exact hf.below h
theorem FW_val {a : Option Addr} {len cap n : Nat} {L16 L32 L64 : List Int} {S16 S32 S64 St : ByteArray} {vt vu : Value} {E : Int} (g : Nat) (b : Bool) (h : gval g = some b) (u : Value) (w : World) (hf : FW a len cap n L16 L32 L64 S16 S32 S64 St vt vu E g u w) : u = .bool b := by
  unfold gval at h
  split at h
  · rename_i hg
    cases h
    rcases hg with rfl | rfl | rfl | rfl <;> exact hf
  · cases h
theorem conv16 (n : Nat) (w : World) : (convert 23 29 (.int .u64 (n : Int))).run Try.prog w = .ok (.int .u16 ((n % 65536 : Nat) : Int)) w := by
  simp [convert, go_sem]
  first | rfl | (simp [IntKind.wrap]; done) | (unfold IntKind.wrap; simp; omega)
theorem conv32 (n : Nat) (w : World) : (convert 23 31 (.int .u64 (n : Int))).run Try.prog w = .ok (.int .u32 ((n % 4294967296 : Nat) : Int)) w := by
  simp [convert, go_sem]
  first | rfl | (simp [IntKind.wrap]; done) | (unfold IntKind.wrap; simp; omega)
set_option maxRecDepth 100000 in
set_option maxHeartbeats 16000000 in
theorem wirePuts_walk (a : Option Addr) (len cap : Nat) (l : List Int) (n : Nat) (hn : Hid (n < 18446744073709551616)) (s : ByteArray) (hs64 : s.size ≤ 9223372036854775807) (w : World) (hs : Sl .u8 w a len cap l) :
    Calls Try.prog 3 #[.slice a len cap, .int .u64 (n : Int), .string s] w fun e w' => e = .returned (.bool true) ∧ Below w.heap.size w w' := by
  have HS0 := hid hs
  have hm : len ≤ 9223372036854775807 := by have k1 := hs.2.1; have k2 := hs.2.2.1; unfold maxLen at k2; omega
  clear hs
  go_enter Try.func3, Try.ntmps3
  go_wp2_with fail
  (with_reducible refine (sane_any _).mono ?_); rintro e w1 ⟨rfl, hb⟩; have HB1 := hid hb; clear hb
  by_cases h5 : 500 < len
  · have e5 : decide ((500 : Int) < (len : Int)) = true := by simp; omega
    go_wp2_with fail
    go_ret
    exact ⟨rfl, HB1.out⟩
  by_cases h6 : 500 < s.size
  · have e5 : decide ((500 : Int) < (len : Int)) = false := by simp; omega
    have e6 : decide ((500 : Int) < (s.size : Int)) = true := by simp; omega
    go_wp2_with fail
    go_ret
    exact ⟨rfl, HB1.out⟩
  have e5 : decide ((500 : Int) < (len : Int)) = false := by simp; omega
  have e6 : decide ((500 : Int) < (s.size : Int)) = false := by simp; omega
  have cT := hid (putText_any a len cap l s w1 (HS0.out.below HB1.out) (by omega) hs64)
  go_wp2_with fail
  (with_reducible refine cT.out.mono ?_)
  rintro e w2 ⟨vt, hvt, hb⟩
  have HB2 := hid (HB1.out.trans (hb.mono HB1.out.size)); clear hb cT HB1
  have cU := hid (rputText_any a len cap l s w2 (HS0.out.below HB2.out) (by omega) hs64)
  obtain ⟨Lt, E, rfl, HTm⟩ : ∃ (Lt : List Int) (E : Int), e = .returned (.tuple #[vt, .int .i64 E]) ∧ Hid (MS w2 vt Lt ∧ ((64 < s.size ∧ Lt = [] ∧ E = 3) ∨ (s.size ≤ 64 ∧ Lt = l ++ (s.size : Int) :: sBytes s ∧ E = 0))) := by
    rcases hvt with ⟨h1, rfl, rfl⟩ | ⟨h1, rfl, h2⟩
    · exact ⟨[], 3, rfl, ⟨_, _, _, rfl, ⟨rfl, Nat.le_refl _, Nat.zero_le _, by simp, fun _ => rfl, .inl rfl⟩⟩, .inl ⟨h1, rfl, rfl⟩⟩
    · exact ⟨_, 0, rfl, MS.of h2, .inr ⟨h1, rfl, rfl⟩⟩
  clear hvt
  go_wp2_with fail
  (with_reducible refine cU.out.mono ?_)
  rintro e w3 ⟨vu, hvu, hb⟩
  have HB3 := hid (HB2.out.trans (hb.mono HB2.out.size)); clear cU
  have HTk := hid (HTm.out.1.below hb); clear hb HB2
  obtain ⟨rfl, HUk⟩ : e = .returned (.tuple #[vu, .int .i64 E]) ∧ Hid (MS w3 vu Lt) := by
    rcases hvu with ⟨h1, rfl, rfl⟩ | ⟨h1, rfl, h2⟩
    · rcases HTm.out.2 with ⟨_, rfl, rfl⟩ | ⟨h3, _⟩
      · exact ⟨rfl, ⟨_, _, _, rfl, ⟨rfl, Nat.le_refl _, Nat.zero_le _, by simp, fun _ => rfl, .inl rfl⟩⟩⟩
      · omega
    · rcases HTm.out.2 with ⟨h3, _⟩ | ⟨_, rfl, rfl⟩
      · omega
      · exact ⟨rfl, MS.of h2⟩
  clear hvu HTm
  go_upto_region 7 with (fail)
  have HS := hid (HS0.out.below (HB3.out.drew))
  have HTk := hid (HTk.out.below ((Below.refl _ w3).drew))
  have HUk := hid (HUk.out.below ((Below.refl _ w3).drew))
  obtain ⟨St, hSt⟩ : ∃ St, strOfNums Lt = St := ⟨_, rfl⟩
  have HT := hid (fun (wx : World) (hI : Below w3.drew.heap.size w3.drew wx) => show (convert 22 9 vt).run Try.prog wx = .ok (.string St) wx from by
    obtain ⟨a1, m1, c1, rfl, hsl⟩ := HTk.out.below hI
    rw [← hSt]
    exact run_string_sl (P := Try.prog) Try.underlying22 Try.underlying5 hsl 9 Try.underlying9)
  have HU := hid (fun (wx : World) (hI : Below w3.drew.heap.size w3.drew wx) => show (convert 22 9 vu).run Try.prog wx = .ok (.string St) wx from by
    obtain ⟨a1, m1, c1, rfl, hsl⟩ := HUk.out.below hI
    rw [← hSt]
    exact run_string_sl (P := Try.prog) Try.underlying22 Try.underlying5 hsl 9 Try.underlying9)
  obtain ⟨L16, hL16⟩ : ∃ L, l ++ le (n % 65536) 2 = L := ⟨_, rfl⟩
  obtain ⟨L32, hL32⟩ : ∃ L, l ++ le (n % 4294967296) 4 = L := ⟨_, rfl⟩
  obtain ⟨L64, hL64⟩ : ∃ L, l ++ le n 8 = L := ⟨_, rfl⟩
  have hL16 := hid hL16
  have hL32 := hid hL32
  have hL64 := hid hL64
  obtain ⟨S16, hS16⟩ : ∃ S, strOfNums L16 = S := ⟨_, rfl⟩
  obtain ⟨S32, hS32⟩ : ∃ S, strOfNums L32 = S := ⟨_, rfl⟩
  obtain ⟨S64, hS64⟩ : ∃ S, strOfNums L64 = S := ⟨_, rfl⟩
  have hS16 := hid hS16
  have hS32 := hid hS32
  have hS64 := hid hS64
  have hc16 := hid (conv16 n)
  have hc32 := hid (conv32 n)
  have cw16 := hid (fun wx (h : Sl .u8 wx a len cap l) => Put16_any a len cap l (n % 65536) (by omega) wx h (by omega))
  have cr16 := hid (fun wx (h : Sl .u8 wx a len cap l) => rPut16_any a len cap l (n % 65536) (by omega) wx h (by omega))
  have cw32 := hid (fun wx (h : Sl .u8 wx a len cap l) => Put32w_any a len cap l (n % 4294967296) (by omega) wx h (by omega))
  have cr32 := hid (fun wx (h : Sl .u8 wx a len cap l) => rPut32_any a len cap l (n % 4294967296) (by omega) wx h (by omega))
  have cw64 := hid (fun wx (h : Sl .u8 wx a len cap l) => Put64w_any a len cap l n hn wx h (by omega))
  have cr64 := hid (fun wx (h : Sl .u8 wx a len cap l) => rPut64_any a len cap l n hn.out wx h (by omega))
  have hI0 : Below w3.drew.heap.size w3.drew w3.drew := Below.refl _ _
  clear hSt HTk HUk HS0
  refine wp_region_factsT (ops := [_, _, _, _, _, _, _, _, _, _, _, _, _, _, _, _, _, _, _, _, _, _, _, _, _, _, _, _, _, _, _, _, _, _, _, _, _, _, _, _, _, _, _, _, _, _, _, _]) gval (fun w' => Below w3.drew.heap.size w3.drew w') (FW a len cap n L16 L32 L64 S16 S32 S64 St vt vu E) (by kernel_rfl) (by kernel_rfl) (by kernel_rfl) hI0 (fun g b h u w hf => FW_val g b h u w hf) (by kernel_rfl) ?_ ?_
  · refine ⟨?_, ?_, ?_, ?_, ?_, ?_, ?_, ?_, ?_, ?_, ?_, ?_, ?_, ?_, ?_, ?_, ?_, ?_, ?_, ?_, ?_, ?_, ?_, ?_, ?_, ?_, ?_, ?_, ?_, ?_, ?_, ?_, ?_, ?_, ?_, ?_, ?_, ?_, ?_, ?_, ?_, ?_, ?_, ?_, ?_, ?_, ?_, ?_, trivial⟩
    all_goals (unfold StepG; rw [if_pos (by kernel_rfl)]; intro a1 wx hs hdf hfar hI hdeps K hK)
    · exact wp_move (.tmp 0) (.inl rfl) _ (far_eval (hfar 0 (by kernel_rfl)) rfl) (hK _ _ hI rfl (fun j _ u h => h))
    · exact wp_move (.tmp 1) (.inl rfl) _ (far_eval (hfar 1 (by kernel_rfl)) rfl) (hK _ _ hI rfl (fun j _ u h => h))
    · have e1 : a1.eval (.tmp 34) = .int .u64 (n : Int) := hdeps ⟨1, .data⟩ (by simp) rfl _ rfl
      exact wp_conv (.tmp 34) rfl _ (.int .u16 ((n % 65536 : Nat) : Int)) e1 (hc16.out wx) (hK _ _ hI rfl (fun j _ u h => h))
    · have e0 : a1.eval (.tmp 33) = .slice a len cap := hdeps ⟨0, .data⟩ (by simp) rfl _ rfl
      have e2 : a1.eval (.tmp 35) = .int .u16 ((n % 65536 : Nat) : Int) := hdeps ⟨2, .data⟩ (by simp) rfl _ rfl
      refine wp_fn 12 [.tmp 33, .tmp 35] _ rfl [.slice a len cap, .int .u16 ((n % 65536 : Nat) : Int)] (by simp only [List.map_cons, List.map_nil, e0, e2]) enter_w16 (cw16.out wx (HS.out.below hI)) ?_
      rintro e wy ⟨v, rfl, hv, hb⟩
      exact ⟨_, rfl, hK _ _ (hI.trans (hb.mono hI.size)) (by have h := MS.of hv.out; rw [hL16.out] at h; exact h) (fun j _ u h => FW_below hb j u h)⟩
    · obtain ⟨b1, m1, c1, e1, hsl⟩ := (hdeps ⟨3, .data⟩ (by simp) rfl _ rfl : MS wx (a1.eval (.tmp 36)) L16)
      exact wp_conv (.tmp 36) rfl _ _ e1 (run_string_sl (P := Try.prog) Try.underlying22 Try.underlying5 hsl 9 Try.underlying9) (hK _ _ hI (by rw [hS16.out]; rfl) (fun j _ u h => h))
    · exact wp_move (.tmp 0) (.inl rfl) _ (far_eval (hfar 0 (by kernel_rfl)) rfl) (hK _ _ hI rfl (fun j _ u h => h))
    · exact wp_move (.tmp 1) (.inl rfl) _ (far_eval (hfar 1 (by kernel_rfl)) rfl) (hK _ _ hI rfl (fun j _ u h => h))
    · have e6 : a1.eval (.tmp 39) = .int .u64 (n : Int) := hdeps ⟨6, .data⟩ (by simp) rfl _ rfl
      exact wp_conv (.tmp 39) rfl _ (.int .u16 ((n % 65536 : Nat) : Int)) e6 (hc16.out wx) (hK _ _ hI rfl (fun j _ u h => h))
    · have e5 : a1.eval (.tmp 38) = .slice a len cap := hdeps ⟨5, .data⟩ (by simp) rfl _ rfl
      have e7 : a1.eval (.tmp 40) = .int .u16 ((n % 65536 : Nat) : Int) := hdeps ⟨7, .data⟩ (by simp) rfl _ rfl
      refine wp_fn 13 [.tmp 38, .tmp 40] _ rfl [.slice a len cap, .int .u16 ((n % 65536 : Nat) : Int)] (by simp only [List.map_cons, List.map_nil, e5, e7]) enter_r16 (cr16.out wx (HS.out.below hI)) ?_
      rintro e wy ⟨v, rfl, hv, hb⟩
      exact ⟨_, rfl, hK _ _ (hI.trans (hb.mono hI.size)) (by have h := MS.of hv.out; rw [hL16.out] at h; exact h) (fun j _ u h => FW_below hb j u h)⟩
    · obtain ⟨b1, m1, c1, e1, hsl⟩ := (hdeps ⟨8, .data⟩ (by simp) rfl _ rfl : MS wx (a1.eval (.tmp 41)) L16)
      exact wp_conv (.tmp 41) rfl _ _ e1 (run_string_sl (P := Try.prog) Try.underlying22 Try.underlying5 hsl 9 Try.underlying9) (hK _ _ hI (by rw [hS16.out]; rfl) (fun j _ u h => h))
    · have e4 : a1.eval (.tmp 37) = .string S16 := hdeps ⟨4, .data⟩ (by simp) rfl _ rfl
      have x4 := tmp_eval e4
      have e9 : a1.eval (.tmp 42) = .string S16 := hdeps ⟨9, .data⟩ (by simp) rfl _ rfl
      have x9 := tmp_eval e9
      have HDF := hid hdf
      have HI := hid hI
      clear hdf hs hfar hdeps hI e4 e9
      go_simp
      exact hK _ _ HI.out (by first | rfl | simp | (show _ = _; simp [*])) (fun j _ u h => h)
    · have e10 : a1.eval (.tmp 43) = .bool true := hdeps ⟨10, .data⟩ (by simp) rfl _ rfl
      exact wp_move (.tmp 43) (.inl rfl) _ e10 (hK _ _ hI rfl (fun j _ u h => h))
    · exact wp_move (.tmp 0) (.inl rfl) _ (far_eval (hfar 0 (by kernel_rfl)) rfl) (hK _ _ hI rfl (fun j _ u h => h))
    · exact wp_move (.tmp 1) (.inl rfl) _ (far_eval (hfar 1 (by kernel_rfl)) rfl) (hK _ _ hI rfl (fun j _ u h => h))
    · have e13 : a1.eval (.tmp 46) = .int .u64 (n : Int) := hdeps ⟨13, .data⟩ (by simp) rfl _ rfl
      exact wp_conv (.tmp 46) rfl _ (.int .u32 ((n % 4294967296 : Nat) : Int)) e13 (hc32.out wx) (hK _ _ hI rfl (fun j _ u h => h))
    · have e12 : a1.eval (.tmp 45) = .slice a len cap := hdeps ⟨12, .data⟩ (by simp) rfl _ rfl
      have e14 : a1.eval (.tmp 47) = .int .u32 ((n % 4294967296 : Nat) : Int) := hdeps ⟨14, .data⟩ (by simp) rfl _ rfl
      refine wp_fn 14 [.tmp 45, .tmp 47] _ rfl [.slice a len cap, .int .u32 ((n % 4294967296 : Nat) : Int)] (by simp only [List.map_cons, List.map_nil, e12, e14]) enter_w32 (cw32.out wx (HS.out.below hI)) ?_
      rintro e wy ⟨v, rfl, hv, hb⟩
      exact ⟨_, rfl, hK _ _ (hI.trans (hb.mono hI.size)) (by have h := MS.of hv.out; rw [hL32.out] at h; exact h) (fun j _ u h => FW_below hb j u h)⟩
    · obtain ⟨b1, m1, c1, e1, hsl⟩ := (hdeps ⟨15, .data⟩ (by simp) rfl _ rfl : MS wx (a1.eval (.tmp 48)) L32)
      exact wp_conv (.tmp 48) rfl _ _ e1 (run_string_sl (P := Try.prog) Try.underlying22 Try.underlying5 hsl 9 Try.underlying9) (hK _ _ hI (by rw [hS32.out]; rfl) (fun j _ u h => h))
    · exact wp_move (.tmp 0) (.inl rfl) _ (far_eval (hfar 0 (by kernel_rfl)) rfl) (hK _ _ hI rfl (fun j _ u h => h))
    · exact wp_move (.tmp 1) (.inl rfl) _ (far_eval (hfar 1 (by kernel_rfl)) rfl) (hK _ _ hI rfl (fun j _ u h => h))
    · have e18 : a1.eval (.tmp 51) = .int .u64 (n : Int) := hdeps ⟨18, .data⟩ (by simp) rfl _ rfl
      exact wp_conv (.tmp 51) rfl _ (.int .u32 ((n % 4294967296 : Nat) : Int)) e18 (hc32.out wx) (hK _ _ hI rfl (fun j _ u h => h))
    · have e17 : a1.eval (.tmp 50) = .slice a len cap := hdeps ⟨17, .data⟩ (by simp) rfl _ rfl
      have e19 : a1.eval (.tmp 52) = .int .u32 ((n % 4294967296 : Nat) : Int) := hdeps ⟨19, .data⟩ (by simp) rfl _ rfl
      refine wp_fn 15 [.tmp 50, .tmp 52] _ rfl [.slice a len cap, .int .u32 ((n % 4294967296 : Nat) : Int)] (by simp only [List.map_cons, List.map_nil, e17, e19]) enter_r32 (cr32.out wx (HS.out.below hI)) ?_
      rintro e wy ⟨v, rfl, hv, hb⟩
      exact ⟨_, rfl, hK _ _ (hI.trans (hb.mono hI.size)) (by have h := MS.of hv.out; rw [hL32.out] at h; exact h) (fun j _ u h => FW_below hb j u h)⟩
    · obtain ⟨b1, m1, c1, e1, hsl⟩ := (hdeps ⟨20, .data⟩ (by simp) rfl _ rfl : MS wx (a1.eval (.tmp 53)) L32)
      exact wp_conv (.tmp 53) rfl _ _ e1 (run_string_sl (P := Try.prog) Try.underlying22 Try.underlying5 hsl 9 Try.underlying9) (hK _ _ hI (by rw [hS32.out]; rfl) (fun j _ u h => h))
    · have e16 : a1.eval (.tmp 49) = .string S32 := hdeps ⟨16, .data⟩ (by simp) rfl _ rfl
      have x16 := tmp_eval e16
      have e21 : a1.eval (.tmp 54) = .string S32 := hdeps ⟨21, .data⟩ (by simp) rfl _ rfl
      have x21 := tmp_eval e21
      have HDF := hid hdf
      have HI := hid hI
      clear hdf hs hfar hdeps hI e16 e21
      go_simp
      exact hK _ _ HI.out (by first | rfl | simp | (show _ = _; simp [*])) (fun j _ u h => h)
    · have e11 : a1.eval (.tmp 44) = .bool true := hdeps ⟨11, .data⟩ (by simp) rfl _ rfl
      have x11 := tmp_eval e11
      have e22 : a1.eval (.tmp 55) = .bool true := hdeps ⟨22, .data⟩ (by simp) rfl _ rfl
      have x22 := tmp_eval e22
      have HDF := hid hdf
      have HI := hid hI
      clear hdf hs hfar hdeps hI e11 e22
      go_simp
      exact hK _ _ HI.out (by first | rfl | simp | (show _ = _; simp [*])) (fun j _ u h => h)
    · have e23 : a1.eval (.tmp 56) = .bool true := hdeps ⟨23, .data⟩ (by simp) rfl _ rfl
      exact wp_move (.tmp 56) (.inl rfl) _ e23 (hK _ _ hI rfl (fun j _ u h => h))
    · exact wp_move (.tmp 0) (.inl rfl) _ (far_eval (hfar 0 (by kernel_rfl)) rfl) (hK _ _ hI rfl (fun j _ u h => h))
    · exact wp_move (.tmp 1) (.inl rfl) _ (far_eval (hfar 1 (by kernel_rfl)) rfl) (hK _ _ hI rfl (fun j _ u h => h))
    · have e25 : a1.eval (.tmp 58) = .slice a len cap := hdeps ⟨25, .data⟩ (by simp) rfl _ rfl
      have e26 : a1.eval (.tmp 59) = .int .u64 (n : Int) := hdeps ⟨26, .data⟩ (by simp) rfl _ rfl
      refine wp_fn 16 [.tmp 58, .tmp 59] _ rfl [.slice a len cap, .int .u64 (n : Int)] (by simp only [List.map_cons, List.map_nil, e25, e26]) enter_w64 (cw64.out wx (HS.out.below hI)) ?_
      rintro e wy ⟨v, rfl, hv, hb⟩
      exact ⟨_, rfl, hK _ _ (hI.trans (hb.mono hI.size)) (by have h := MS.of hv.out; rw [hL64.out] at h; exact h) (fun j _ u h => FW_below hb j u h)⟩
    · obtain ⟨b1, m1, c1, e1, hsl⟩ := (hdeps ⟨27, .data⟩ (by simp) rfl _ rfl : MS wx (a1.eval (.tmp 60)) L64)
      exact wp_conv (.tmp 60) rfl _ _ e1 (run_string_sl (P := Try.prog) Try.underlying22 Try.underlying5 hsl 9 Try.underlying9) (hK _ _ hI (by rw [hS64.out]; rfl) (fun j _ u h => h))
    · exact wp_move (.tmp 0) (.inl rfl) _ (far_eval (hfar 0 (by kernel_rfl)) rfl) (hK _ _ hI rfl (fun j _ u h => h))
    · exact wp_move (.tmp 1) (.inl rfl) _ (far_eval (hfar 1 (by kernel_rfl)) rfl) (hK _ _ hI rfl (fun j _ u h => h))
    · have e29 : a1.eval (.tmp 62) = .slice a len cap := hdeps ⟨29, .data⟩ (by simp) rfl _ rfl
      have e30 : a1.eval (.tmp 63) = .int .u64 (n : Int) := hdeps ⟨30, .data⟩ (by simp) rfl _ rfl
      refine wp_fn 17 [.tmp 62, .tmp 63] _ rfl [.slice a len cap, .int .u64 (n : Int)] (by simp only [List.map_cons, List.map_nil, e29, e30]) enter_r64 (cr64.out wx (HS.out.below hI)) ?_
      rintro e wy ⟨v, rfl, hv, hb⟩
      exact ⟨_, rfl, hK _ _ (hI.trans (hb.mono hI.size)) (by have h := MS.of hv.out; rw [hL64.out] at h; exact h) (fun j _ u h => FW_below hb j u h)⟩
    · obtain ⟨b1, m1, c1, e1, hsl⟩ := (hdeps ⟨31, .data⟩ (by simp) rfl _ rfl : MS wx (a1.eval (.tmp 64)) L64)
      exact wp_conv (.tmp 64) rfl _ _ e1 (run_string_sl (P := Try.prog) Try.underlying22 Try.underlying5 hsl 9 Try.underlying9) (hK _ _ hI (by rw [hS64.out]; rfl) (fun j _ u h => h))
    · have e28 : a1.eval (.tmp 61) = .string S64 := hdeps ⟨28, .data⟩ (by simp) rfl _ rfl
      have x28 := tmp_eval e28
      have e32 : a1.eval (.tmp 65) = .string S64 := hdeps ⟨32, .data⟩ (by simp) rfl _ rfl
      have x32 := tmp_eval e32
      have HDF := hid hdf
      have HI := hid hI
      clear hdf hs hfar hdeps hI e28 e32
      go_simp
      exact hK _ _ HI.out (by first | rfl | simp | (show _ = _; simp [*])) (fun j _ u h => h)
    · have e24 : a1.eval (.tmp 57) = .bool true := hdeps ⟨24, .data⟩ (by simp) rfl _ rfl
      have x24 := tmp_eval e24
      have e33 : a1.eval (.tmp 66) = .bool true := hdeps ⟨33, .data⟩ (by simp) rfl _ rfl
      have x33 := tmp_eval e33
      have HDF := hid hdf
      have HI := hid hI
      clear hdf hs hfar hdeps hI e24 e33
      go_simp
      exact hK _ _ HI.out (by first | rfl | simp | (show _ = _; simp [*])) (fun j _ u h => h)
    · have e34 : a1.eval (.tmp 67) = .bool true := hdeps ⟨34, .data⟩ (by simp) rfl _ rfl
      exact wp_move (.tmp 67) (.inl rfl) _ e34 (hK _ _ hI rfl (fun j _ u h => h))
    · exact wp_move (.tmp 7) (.inl rfl) _ (far_eval (hfar 7 (by kernel_rfl)) rfl) (hK _ _ hI rfl (fun j _ u h => h))
    · have e36 : a1.eval (.tmp 69) = vt := hdeps ⟨36, .data⟩ (by simp) rfl _ rfl
      exact wp_conv (.tmp 69) rfl _ _ e36 (HT.out wx hI) (hK _ _ hI rfl (fun j _ u h => h))
    · exact wp_move (.tmp 9) (.inl rfl) _ (far_eval (hfar 9 (by kernel_rfl)) rfl) (hK _ _ hI rfl (fun j _ u h => h))
    · have e38 : a1.eval (.tmp 71) = vu := hdeps ⟨38, .data⟩ (by simp) rfl _ rfl
      exact wp_conv (.tmp 71) rfl _ _ e38 (HU.out wx hI) (hK _ _ hI rfl (fun j _ u h => h))
    · have e37 : a1.eval (.tmp 70) = .string St := hdeps ⟨37, .data⟩ (by simp) rfl _ rfl
      have x37 := tmp_eval e37
      have e39 : a1.eval (.tmp 72) = .string St := hdeps ⟨39, .data⟩ (by simp) rfl _ rfl
      have x39 := tmp_eval e39
      have HDF := hid hdf
      have HI := hid hI
      clear hdf hs hfar hdeps hI e37 e39
      go_simp
      exact hK _ _ HI.out (by first | rfl | simp | (show _ = _; simp [*])) (fun j _ u h => h)
    · have e35 : a1.eval (.tmp 68) = .bool true := hdeps ⟨35, .data⟩ (by simp) rfl _ rfl
      have x35 := tmp_eval e35
      have e40 : a1.eval (.tmp 73) = .bool true := hdeps ⟨40, .data⟩ (by simp) rfl _ rfl
      have x40 := tmp_eval e40
      have HDF := hid hdf
      have HI := hid hI
      clear hdf hs hfar hdeps hI e35 e40
      go_simp
      exact hK _ _ HI.out (by first | rfl | simp | (show _ = _; simp [*])) (fun j _ u h => h)
    · have e41 : a1.eval (.tmp 74) = .bool true := hdeps ⟨41, .data⟩ (by simp) rfl _ rfl
      exact wp_move (.tmp 74) (.inl rfl) _ e41 (hK _ _ hI rfl (fun j _ u h => h))
    · exact wp_move (.tmp 8) (.inl rfl) _ (far_eval (hfar 8 (by kernel_rfl)) rfl) (hK _ _ hI rfl (fun j _ u h => h))
    · exact wp_move (.tmp 10) (.inl rfl) _ (far_eval (hfar 10 (by kernel_rfl)) rfl) (hK _ _ hI rfl (fun j _ u h => h))
    · have e43 : a1.eval (.tmp 76) = .int .i64 E := hdeps ⟨43, .data⟩ (by simp) rfl _ rfl
      have x43 := tmp_eval e43
      have e44 : a1.eval (.tmp 77) = .int .i64 E := hdeps ⟨44, .data⟩ (by simp) rfl _ rfl
      have x44 := tmp_eval e44
      have HDF := hid hdf
      have HI := hid hI
      clear hdf hs hfar hdeps hI e43 e44
      go_simp
      exact hK _ _ HI.out (by first | rfl | simp | (show _ = _; simp [*])) (fun j _ u h => h)
    · have e42 : a1.eval (.tmp 75) = .bool true := hdeps ⟨42, .data⟩ (by simp) rfl _ rfl
      have x42 := tmp_eval e42
      have e45 : a1.eval (.tmp 78) = .bool true := hdeps ⟨45, .data⟩ (by simp) rfl _ rfl
      have x45 := tmp_eval e45
      have HDF := hid hdf
      have HI := hid hI
      clear hdf hs hfar hdeps hI e42 e45
      go_simp
      exact hK _ _ HI.out (by first | rfl | simp | (show _ = _; simp [*])) (fun j _ u h => h)
    · have e46 : a1.eval (.tmp 79) = .bool true := hdeps ⟨46, .data⟩ (by simp) rfl _ rfl
      exact wp_move (.tmp 79) (.inr rfl) _ e46 (hK _ _ hI rfl (fun j _ u h => h))
  · intro a1 wx hs hdf hfar hI hF
    have e47 : a1.eval (.tmp 6) = .bool true := hF 47 _ rfl
    have hbel : Below w.heap.size w wx := HB3.out.drew.trans (hI.mono HB3.out.drew.size)
    have hsz : a1.tmps.size = 80 := hs
    have e6 := tmp_get e47 (by rw [hsz]; decide)
    have x47 := tmp_eval e47
    have HDF := hid hdf
    clear hF hfar hI hs hdf e47 hI0
    go_wp2_with fail
    refine bodyPost_ret (v := .bool true) (by simp [results, Try.results3, go_sem, *]) HDF.out ?_
    exact ⟨rfl, hbel⟩
theorem wirePuts_int (a : Option Addr) (len cap : Nat) (l : List Int) (n : Int) (hn : 0 ≤ n ∧ n ≤ 18446744073709551615) (s : ByteArray) (hs64 : s.size ≤ maxLen) (w : World) (hs : Sl .u8 w a len cap l) :
    Calls Try.prog 3 #[.slice a len cap, .int .u64 n, .string s] w fun e w' => e = .returned (.bool true) ∧ Below w.heap.size w w' := by
  obtain ⟨m, rfl⟩ := Int.eq_ofNat_of_zero_le hn.1
  exact wirePuts_walk a len cap l m (hid (by omega)) s (by unfold maxLen at hs64; omega) w hs
end Go.Proofs.Ytimogkkkpkcblaa
