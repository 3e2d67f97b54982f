/- What slices.Concat and PutText make: no statement is proved here. -/
import Derived.Test.YtimogkkkpkcblaaWirePut
import Derived.Lib.AppendZeros
import Derived.Lib.AppendStr
import Derived.Lib.ConvBytes
namespace Go.Proofs.Ytimogkkkpkcblaa
open Go.ChangeShapes Go.WideShapes Go.ChangeAt Go.RowKit
set_option linter.unusedVariables false

set_option maxHeartbeats 1000000 in
theorem grow_any (n : Nat) (hn : n ≤ 1000000) (w : World) :
    Calls Try.prog 39 #[.slice none 0 0, .int .i64 n] w fun e w' => ∃ v, e = .returned v ∧ Hid (w'.ownsRow w.heap.size 5 1 v 0 []) ∧ Below w.heap.size w w' := by
  by_cases h0 : n = 0
  · subst h0
    go_enter Try.func39, Try.ntmps39
    go_wp2
    go_ret
    exact ⟨_, rfl, World.ownsRow_nil _ _ _ _, Below.refl _ _⟩
  · have hp : (0 : Int) < (n : Int) := by omega
    obtain ⟨i0, hi, hz0, hz1, hz2⟩ := info_parts info_u8
    have hr := Lib.run_append_nil_zeros (P := Try.prog) w 22 3 22 5 i0 (.int .u8 0) .i64 .i64 Try.underlying22 Try.underlying3 hi hz0 n (by omega) (by omega) (by omega) (by rw [hz2]; omega)
    go_enter Try.func39, Try.ntmps39
    go_wp2_with (at_builtin; refine Lib.wpList_append_run _ rfl _ _ _ _ rfl _ _ rfl rfl _ _ hr ?_)
    go_ret
    have hge := grownCap_ge w n 0 5
    have hle := grownCap_le_maxLen w n 0 5 (by unfold maxLen; omega)
    exact ⟨_, rfl, owns_row (w := w.alloc _) (heap_alloc_new w _) (Nat.zero_le _) hle (by simp [Builtin.zeroCells]; omega) rfl (by simp), ((Below.refl _ _).alloc (Nat.le_refl _) _).drew⟩

/-- a list of slices of bytes, as Concat is told of it -/
def Slices (w : World) (b : Nat) (xs : List (List Int)) : Prop := ∀ k, k < xs.length → ∃ a len cap, w.cell? ⟨b, k, none⟩ = some (.slice a len cap) ∧ Sl .u8 w a len cap (xs.getD k []) ∧ len ≤ 1000
theorem Slices.below {w w' : World} {b : Nat} {xs : List (List Int)} (h : Slices w b xs) (hb : b < w.heap.size) (hbel : Below w.heap.size w w') : Slices w' b xs := by
  intro k hk
  obtain ⟨a, len, cap, h1, h2, h3⟩ := h k hk
  exact ⟨a, len, cap, by rw [(bcell hbel).1 b k hb]; exact h1, h2.below hbel, h3⟩
def flat (xs : List (List Int)) (k : Nat) : List Int := (xs.take k).flatten
theorem flat_succ (xs : List (List Int)) (k : Nat) (h : k < xs.length) : flat xs (k + 1) = flat xs k ++ xs.getD k [] := by
  unfold flat
  rw [List.take_succ_eq_append_getElem h, List.flatten_append, List.getD_eq_getElem?_getD, List.getElem?_eq_getElem h]
  simp only [List.flatten_cons, List.flatten_nil, List.append_nil, Option.getD_some]
set_option maxHeartbeats 2000000 in
theorem concat_any (b n cap : Nat) (xs : List (List Int)) (hn : xs.length = n) (hn8 : n ≤ 8) (w : World) (hb : b < w.heap.size) (hs : Slices w b xs) :
    Calls Try.prog 30 #[.slice (some ⟨b, 0, none⟩) n cap] w fun e w' => ∃ v, e = .returned v ∧ Hid (Made w.heap.size .u8 w' v (flat xs n)) ∧ Below w.heap.size w w' := by
  have HS := hid hs
  have HN := hid hn
  clear hs hn
  go_enter Try.func30, Try.ntmps30
  go_wp2
  go_loop [3, 11] (fun s i => ∃ k m : Nat, k ≤ n ∧ m ≤ 1000 * k ∧ i = .int .i64 k ∧ s = .int .i64 m) (fun _ i => n - (intOf i).toNat)
  case atStart => exact ⟨0, 0, by omega, by omega, rfl, rfl⟩
  case round =>
    obtain ⟨k, m, hk, hm, rfl, rfl⟩ := hrel
    by_cases hlt : k < n
    · obtain ⟨a, len, c, hc, hsl, hlen⟩ := HS.out k (by rw [HN.out]; exact hlt)
      clear hsl
      go_wp2
      go_round
      case rel => exact ⟨k + 1, m + len, by omega, by omega, by go_num, by go_num⟩
      case measure => simp [intOf]; omega
    · go_wp2_with (go_at_call 39; refine (grow_any m (by omega) w).mono ?_; rintro e w1 ⟨v, rfl, hown, hbel⟩; have HB := hid hbel; clear hbel)
      go_loopw [6, 27] (fun v i wr => ∃ k : Nat, k ≤ n ∧ i = .int .i64 k ∧ Hid (wr.ownsRow w.heap.size 5 1 v (flat xs k).length ((flat xs k).map (Value.int .u8))) ∧ Hid (Below w.heap.size w wr) ∧ Hid ((flat xs k).length ≤ 1000 * k ∧ ∀ x ∈ flat xs k, (Lit.int .u8 x).wf = true)) (fun _ i _ => n - (intOf i).toNat)
      case atStart => exact ⟨0, by omega, rfl, hown, HB, by simp [flat, Hid]⟩
      case round =>
        obtain ⟨k, hk, rfl, hown, hbel, hle⟩ := hrel
        by_cases hlt2 : k < n
        · obtain ⟨a, len, c, hc, hsl, hlen⟩ := HS.out.below hb hbel.out k (by rw [HN.out]; exact hlt2)
          have HL := hid hsl
          have hst := hid (flat_succ xs k (by rw [HN.out]; exact hlt2))
          clear hsl
          go_wp2_with (at_builtin; refine wpList_append_sl _ rfl (.tmp 31) (.tmp 32) 22 rfl .u8 5 (.int .u8 0) 1 Try.underlying22 info_u8 rfl w.heap.size _ _ _ hown.out rfl a len c _ rfl HL.out (by have := hle.out.1; unfold maxLen; omega) (by have := hle.out.1; omega) hbel.out.size ?_)
          intro v3 w3 hown3 hgr3
          have hb3 : Hid (Below w.heap.size w w3) := hbel.out.grown hgr3.out hbel.out.size (fun k' hk' => (hown.out.lt k' hk').1)
          go_wp2
          go_roundw
          case rel =>
            refine ⟨k + 1, by omega, by go_num, ?_, hb3, ?_⟩
            · have h := hown3.out
              rw [hst.out, List.map_append, List.length_append, HL.out.1]; exact h
            · show _ ∧ _
              rw [hst.out, List.length_append, HL.out.1]
              refine ⟨by have := hle.out.1; omega, fun x hx => ?_⟩
              rcases List.mem_append.1 hx with h | h
              · exact hle.out.2 x h
              · exact HL.out.2.2.2.1 x h
          case measure => simp [intOf]; omega
        · go_wp2
          go_ret
          have e : k = n := by omega
          subst e
          exact ⟨_, rfl, made_of_own rfl hle.out.2 rfl hown.out, hbel.out⟩

/-- the bytes of a string -/
def sBytes (s : ByteArray) : List Int := s.data.toList.map fun b => (b.toNat : Int)
theorem sBytes_length (s : ByteArray) : (sBytes s).length = s.size := by unfold sBytes; rw [List.length_map, Array.length_toList]; rfl
theorem sBytes_byte (s : ByteArray) : Byte (sBytes s) := by
  intro n hn
  simp only [sBytes, List.mem_map] at hn
  obtain ⟨b, _, rfl⟩ := hn
  have := b.toNat_lt
  omega
theorem sBytes_str (s : ByteArray) : strOfNums (sBytes s) = s := by
  have e : (sBytes s).map (fun n => UInt8.ofNat n.toNat) = s.data.toList := by
    unfold sBytes
    rw [List.map_map]
    have : ((fun n : Int => UInt8.ofNat n.toNat) ∘ fun b : UInt8 => (b.toNat : Int)) = id := by
      funext b
      show UInt8.ofNat ((b.toNat : Int)).toNat = b
      rw [Int.toNat_natCast]
      exact UInt8.ofNat_toNat
    rw [this, List.map_id]
  unfold strOfNums
  rw [e]
theorem sl_bytes {w : World} {s : ByteArray} (hs : s.size ≤ 1000) : Sl .u8 (Lib.bytesWorld w 5 s) (some ⟨w.heap.size, 0, none⟩) s.size (grownCap w s.size 0 5) (sBytes s) := by
  refine ⟨sBytes_length s, grownCap_ge _ _ _ _, grownCap_le_maxLen _ _ _ _ (by unfold maxLen; omega), fun n hn => wf_byte (sBytes_byte s n hn), fun h => (by cases h), .inr ⟨w.heap.size, 0, rfl, by rw [Lib.bytesWorld_size]; omega, fun i hi => ?_⟩⟩
  rw [Nat.zero_add, Lib.bytesWorld_cell w 5 s i hi]
  have h2 : i < s.data.toList.length := by rw [Array.length_toList]; exact hi
  unfold sBytes
  rw [List.getD_eq_getElem?_getD, List.getD_eq_getElem?_getD, List.getElem?_map, List.getElem?_eq_getElem h2]
  rfl
theorem below_bytes (w : World) (s : ByteArray) : Below w.heap.size w (Lib.bytesWorld w 5 s) :=
  ⟨rfl, rfl, rfl, by rw [Lib.bytesWorld_size]; omega, fun k hk => Lib.bytesWorld_at_old w 5 s k hk⟩

set_option maxHeartbeats 2000000 in
theorem putText_any (a : Option Addr) (len cap : Nat) (l : List Int) (s : ByteArray) (w : World) (hs : Sl .u8 w a len cap l) (hlen : len ≤ 1000) (hm : s.size ≤ 9223372036854775807) :
    Calls Try.prog 10 #[.slice a len cap, .string s] w fun e w' => ∃ v, ((64 < s.size ∧ v = .slice none 0 0 ∧ e = .returned (.tuple #[v, .int .i64 3])) ∨ (s.size ≤ 64 ∧ e = .returned (.tuple #[v, .int .i64 0]) ∧ Made w.heap.size .u8 w' v (l ++ (s.size : Int) :: sBytes s))) ∧ Below w.heap.size w w' := by
  by_cases h : 64 < s.size
  · have hd : 64 < (s.size : Int) := by omega
    go_enter Try.func10, Try.ntmps10
    go_wp2
    go_ret2
    exact ⟨_, .inl ⟨h, rfl, rfl⟩, Below.refl _ _⟩
  · have hd : ¬ (64 < (s.size : Int)) := by omega
    have kc := fun w => Lib.run_convert_string_bytes (P := Try.prog) w 9 22 5 s Try.underlying9 Try.underlying22 Try.underlying5
    have HS := hid hs
    clear hs
    go_enter Try.func10, Try.ntmps10
    go_wp2_with fail
    have HW := hid (show Slices ((Lib.bytesWorld (w.alloc (.cells #[.int .u8 s.size] 5)) 5 s).alloc (.cells #[.slice a len cap, .slice (some ⟨w.heap.size, 0, none⟩) 1 1, .slice (some ⟨w.heap.size + 1, 0, none⟩) s.size (grownCap (w.alloc (.cells #[.int .u8 s.size] 5)) s.size 0 5)] 22)) (Lib.bytesWorld (w.alloc (.cells #[.int .u8 s.size] 5)) 5 s).heap.size [l, [(s.size : Int)], sBytes s] by
      have b1 : Below w.heap.size w (w.alloc (.cells #[.int .u8 (s.size : Int)] 5)) := (Below.refl _ _).alloc (Nat.le_refl _) _
      have b2 := below_bytes (w.alloc (.cells #[.int .u8 (s.size : Int)] 5)) s
      have b3 : Below (Lib.bytesWorld (w.alloc (.cells #[.int .u8 (s.size : Int)] 5)) 5 s).heap.size (Lib.bytesWorld (w.alloc (.cells #[.int .u8 (s.size : Int)] 5)) 5 s) ((Lib.bytesWorld (w.alloc (.cells #[.int .u8 s.size] 5)) 5 s).alloc (.cells #[.slice a len cap, .slice (some ⟨w.heap.size, 0, none⟩) 1 1, .slice (some ⟨w.heap.size + 1, 0, none⟩) s.size (grownCap (w.alloc (.cells #[.int .u8 s.size] 5)) s.size 0 5)] 22)) := (Below.refl _ _).alloc (Nat.le_refl _) _
      have s1 : Sl .u8 (w.alloc (.cells #[.int .u8 (s.size : Int)] 5)) (some ⟨w.heap.size, 0, none⟩) 1 1 [(s.size : Int)] := sl_lit (fr := (0, 0)) [(s.size : Int)] (by intro n hn; simp at hn; subst hn; exact wf_byte (by omega)) (by simp [maxLen])
      have e2 : (w.alloc (.cells #[.int .u8 (s.size : Int)] 5)).heap.size = w.heap.size + 1 := by simp
      have s2 := sl_bytes (w := w.alloc (.cells #[.int .u8 (s.size : Int)] 5)) (s := s) (by omega)
      rw [e2] at s2
      intro k hk
      have hcell : ∀ k, ((Lib.bytesWorld (w.alloc (.cells #[.int .u8 s.size] 5)) 5 s).alloc (.cells #[.slice a len cap, .slice (some ⟨w.heap.size, 0, none⟩) 1 1, .slice (some ⟨w.heap.size + 1, 0, none⟩) s.size (grownCap (w.alloc (.cells #[.int .u8 s.size] 5)) s.size 0 5)] 22)).cell? ⟨(Lib.bytesWorld (w.alloc (.cells #[.int .u8 s.size] 5)) 5 s).heap.size, k, none⟩ = #[Value.slice a len cap, .slice (some ⟨w.heap.size, 0, none⟩) 1 1, .slice (some ⟨w.heap.size + 1, 0, none⟩) s.size (grownCap (w.alloc (.cells #[.int .u8 s.size] 5)) s.size 0 5)][k]? :=
        fun k => cell_of_row _ _ k _ 22 (0, 0) (heap_alloc_new _ _)
      match k, hk with
      | 0, _ => exact ⟨a, len, cap, hcell 0, ((HS.out.below b1).below b2).below b3, hlen⟩
      | 1, _ => exact ⟨_, _, _, hcell 1, (s1.below b2).below b3, by omega⟩
      | 2, _ => exact ⟨_, _, _, hcell 2, s2.below b3, by omega⟩)
    refine (concat_any _ 3 3 [l, [(s.size : Int)], sBytes s] rfl (by omega) _ (by simp) HW.out).mono ?_
    rintro e w1 ⟨v, rfl, hv, hb⟩
    have HV := hid hv.out
    have HB := hid hb
    clear hv hb HW
    go_wp2
    go_ret2
    have hsz : w.heap.size ≤ (Lib.bytesWorld (w.alloc (.cells #[.int .u8 s.size] 5)) 5 s).heap.size := by rw [Lib.bytesWorld_size]; simp; omega
    refine ⟨v, .inr ⟨by omega, rfl, ?_⟩, ?_⟩
    · have e : flat [l, [(s.size : Int)], sBytes s] 3 = l ++ (s.size : Int) :: sBytes s := by simp [flat]
      have hv := HV.out
      rw [e] at hv
      obtain ⟨x, y, rfl, h1, h2⟩ := hv
      exact ⟨x, y, rfl, h1, fun ad had => Nat.le_trans hsz (Nat.le_trans (by simp) (h2 ad had))⟩
    · exact (((Below.refl _ _).alloc (Nat.le_refl _) _).trans ((below_bytes _ s).mono (by simp))).trans (((Below.refl _ _).alloc hsz _).trans (HB.out.mono (by simp; omega)))

theorem le_one (n : Nat) (h : n < 256) : le n 1 = [(n : Int)] := by simp [le]; omega
theorem strCells_map (s : ByteArray) : Lib.strCells s = (sBytes s).map (Value.int .u8) := by unfold Lib.strCells sBytes; rw [List.map_map]; rfl
set_option maxHeartbeats 2000000 in
theorem rputText_any (a : Option Addr) (len cap : Nat) (l : List Int) (s : ByteArray) (w : World) (hs : Sl .u8 w a len cap l) (hlen : len ≤ 1000) (hm : s.size ≤ 9223372036854775807) :
    Calls Try.prog 11 #[.slice a len cap, .string s] w fun e w' => ∃ v, ((64 < s.size ∧ v = .slice none 0 0 ∧ e = .returned (.tuple #[v, .int .i64 3])) ∨ (s.size ≤ 64 ∧ e = .returned (.tuple #[v, .int .i64 0]) ∧ Made w.heap.size .u8 w' v (l ++ (s.size : Int) :: sBytes s))) ∧ Below w.heap.size w w' := by
  by_cases h : 64 < s.size
  · have hd : 64 < (s.size : Int) := by omega
    go_enter Try.func11, Try.ntmps11
    go_wp2
    go_ret2
    exact ⟨_, .inl ⟨h, rfl, rfl⟩, Below.refl _ _⟩
  · have hd : ¬ (64 < (s.size : Int)) := by omega
    have cp := hid (rput_own a len cap l s.size 1 (by omega) w hs (by omega))
    have HZ := hid hs.1
    have HW := hid hs.2.2.2.1
    rw [le_one s.size (by omega)] at cp
    obtain ⟨i0, hi, hz0, hz1, hz2⟩ := info_parts info_u8
    have HI := hid hi
    have H0 := hid hz0
    have H1 := hid hz1
    have H2 := hid hz2
    clear hi hz0 hz1 hz2 hs
    go_enter Try.func11, Try.ntmps11
    go_wp2_with (first
      | (go_at_call 31; refine cp.out.mono ?_; rintro e w1 ⟨v, rfl, hown, hb⟩; have HB := hid hb; clear hb)
      | (at_builtin; refine Lib.wpList_append_own_string _ rfl (.tmp 13) (.tmp 14) 22 9 rfl w.heap.size 5 i0 Try.underlying22 Try.underlying9 HI.out H0.out H1.out H2.out _ _ _ rfl hown.out s rfl (by unfold maxLen; omega) (by omega) HB.out.size ?_; intro v2 w2 ho2 hg2 _; have HO := hid ho2; have HB2 := hid (HB.out.grown hg2 HB.out.size (fun k hk => (hown.out.lt k hk).1)); clear ho2 hg2))
    go_ret2
    refine ⟨v2, .inr ⟨by omega, rfl, ?_⟩, HB2.out⟩
    refine made_of_own (l := l ++ (s.size : Int) :: sBytes s) ?_ ?_ ?_ HO.out
    · rw [strCells_map]; simp
    · intro n hn
      rcases List.mem_append.1 hn with h | h
      · exact HW.out n h
      · rcases List.mem_cons.1 h with rfl | h
        · exact wf_byte (by omega)
        · exact wf_byte (sBytes_byte s n h)
    · rw [List.length_append, List.length_cons, sBytes_length, HZ.out]; omega
end Go.Proofs.Ytimogkkkpkcblaa
