/- Lines that were joined. No statement is proved here. -/
import Derived.Test.YtcmldnahohmieaaDoorV02
namespace Go.Proofs.YtcmldnahohmieaaDoor
open Go.ChangeShapes Go.WideShapes Go.ChangeAt Go.RowKit
set_option linter.unusedVariables false
set_option linter.unusedSimpArgs false

/-! lines that were joined are split into the same words -/
theorem pl_ne {x : Int} (h : plB x = true) : ¬ x = 34 ∧ ¬ x = 32 ∧ ¬ x = 92 := by
  have := of_decide_eq_true h
  omega
theorem rd_pl : ∀ (r w : List Int) (ws : List (List Int)), r.all plB = true → rdF (some (1, w, ws)) r = some (1, w ++ r, ws)
  | [], w, ws, _ => by rw [List.append_nil]; rfl
  | x :: r, w, ws, h => by
    rw [List.all_cons, Bool.and_eq_true] at h
    show rdF (rd1 (1, w, ws) x) r = _
    rw [rd_1p rfl (pl_ne h.1).2.1 h.1, rd_pl r _ ws h.2, List.append_assoc]; rfl
theorem plW_get {w : List Int} (h : plW w = true) : w.all plB = true ∧ ¬ w.length = 0 := by
  unfold plW at h
  rw [Bool.and_eq_true] at h
  exact ⟨h.1, of_decide_eq_true h.2⟩
theorem rd_word {w : List Int} (ws : List (List Int)) (h : plW w = true) : rdF (some (0, [], ws)) w = some (1, w, ws) := by
  obtain ⟨h1, h2⟩ := plW_get h
  cases w with
  | nil => exact absurd rfl h2
  | cons x r =>
    rw [List.all_cons, Bool.and_eq_true] at h1
    show rdF (rd1 (0, [], ws) x) r = _
    rw [rd_0p rfl (pl_ne h1.1).1 h1.1, rd_pl r _ ws h1.2]; rfl
theorem rd_es (x : Int) (u : List Int) (ws : List (List Int)) : rdF (some (2, u, ws)) (esB x) = some (2, u ++ [x], ws) := by
  by_cases h1 : x = 34
  · subst h1
    show rdF (rd1 (2, u, ws) 92) [34] = _
    rw [rd_2b rfl rfl]
    show rdF (rd1 (3, u, ws) 34) [] = _
    rw [rd_3y rfl (.inl rfl)]; rfl
  · by_cases h2 : x = 92
    · subst h2
      show rdF (rd1 (2, u, ws) 92) [92] = _
      rw [rd_2b rfl rfl]
      show rdF (rd1 (3, u, ws) 92) [] = _
      rw [rd_3y rfl (.inr (.inl rfl))]; rfl
    · by_cases h3 : x = 10
      · subst h3
        show rdF (rd1 (2, u, ws) 92) [110] = _
        rw [rd_2b rfl rfl]
        show rdF (rd1 (3, u, ws) 110) [] = _
        rw [rd_3y rfl (.inr (.inr (.inl rfl)))]; rfl
      · by_cases h4 : x = 13
        · subst h4
          show rdF (rd1 (2, u, ws) 92) [114] = _
          rw [rd_2b rfl rfl]
          show rdF (rd1 (3, u, ws) 114) [] = _
          rw [rd_3y rfl (.inr (.inr (.inr rfl)))]; rfl
        · rw [es_o h1 h2 h3 h4]
          show rdF (rd1 (2, u, ws) x) [] = _
          rw [rd_2p rfl h1 h2 (by omega)]; rfl
theorem rd_esL : ∀ (w u : List Int) (ws : List (List Int)), rdF (some (2, u, ws)) (esL w) = some (2, u ++ w, ws)
  | [], u, ws => by rw [List.append_nil]; rfl
  | x :: r, u, ws => by
    show rdF _ (esB x ++ esL r) = _
    rw [rdF_app, rd_es, rd_esL r, List.append_assoc]; rfl
theorem rd_qt (w : List Int) (ws : List (List Int)) : rdF (some (0, [], ws)) (qtL w) = some (4, [], ws ++ [w]) := by
  unfold qtL
  rw [rdF_app, rdF_app]
  have e1 : rdF (some (0, [], ws)) [34] = some (2, [], ws) := by
    show rdF (rd1 (0, [], ws) 34) [] = _
    rw [rd_0q rfl rfl]; rfl
  rw [e1, rd_esL]
  show rdF (rd1 (2, [] ++ w, ws) 34) [] = _
  rw [rd_2e rfl rfl]; rfl
theorem rd_wt (w : List Int) (ws : List (List Int)) : rdE (rdF (some (0, [], ws)) (wtL w)) = some (ws ++ [w]) ∧ ∀ t, rdF (some (0, [], ws)) (wtL w ++ 32 :: t) = rdF (some (0, [], ws ++ [w])) t := by
  cases e : plW w with
  | true =>
    rw [wt_p e]
    refine ⟨by rw [rd_word ws e]; rfl, fun t => ?_⟩
    rw [rdF_app, rd_word ws e]
    show rdF (rd1 (1, w, ws) 32) t = _
    rw [rd_1e rfl rfl]
  | false =>
    rw [wt_q e]
    refine ⟨by rw [rd_qt]; rfl, fun t => ?_⟩
    rw [rdF_app, rd_qt]
    show rdF (rd1 (4, [], ws ++ [w]) 32) t = _
    rw [rd_4y (by decide) (by decide) (by decide) (by decide) rfl]
theorem rd_jn : ∀ (r : List (List Int)) (w : List Int) (ws : List (List Int)), rdE (rdF (some (0, [], ws)) (wtL w ++ jnM r)) = some (ws ++ w :: r)
  | [], w, ws => by
    show rdE (rdF _ (wtL w ++ [])) = _
    rw [List.append_nil, (rd_wt w ws).1]
  | v :: r, w, ws => by
    show rdE (rdF _ (wtL w ++ (32 :: wtL v ++ jnM r))) = _
    rw [List.cons_append, (rd_wt w ws).2, rd_jn r v]
    simp
theorem spO_jn {rs : List (List Int)} (h : 1 ≤ rs.length) : spO (jnL rs) = some rs := by
  cases rs with
  | nil => cases h
  | cons w r => exact rd_jn r w []
/-- how long the words are in a line, each with one byte behind it -/
def smL : List (List Int) → Nat
  | [] => 0
  | w :: r => (wtL w).length + 1 + smL r
theorem smL_app (a b : List (List Int)) : smL (a ++ b) = smL a + smL b := by
  induction a with
  | nil => show smL b = 0 + smL b; omega
  | cons x a ih => show _ + 1 + smL (a ++ b) = _ + 1 + smL a + smL b; omega
theorem jnM_sm : ∀ rs : List (List Int), (jnM rs).length = smL rs
  | [] => rfl
  | w :: r => by
    show (32 :: wtL w ++ jnM r).length = (wtL w).length + 1 + smL r
    rw [List.length_append, List.length_cons, jnM_sm r]
theorem jnL_sm {rs : List (List Int)} (h : 1 ≤ rs.length) : (jnL rs).length + 1 = smL rs := by
  cases rs with
  | nil => cases h
  | cons w r =>
    show (wtL w ++ jnM r).length + 1 = (wtL w).length + 1 + smL r
    rw [List.length_append, jnM_sm r]; omega
theorem smL_at : ∀ {rs : List (List Int)} {w : List Int}, w ∈ rs → w.length + 1 ≤ smL rs
  | v :: r, w, h => by
    show _ ≤ (wtL v).length + 1 + smL r
    rcases List.mem_cons.1 h with rfl | h
    · have := wtL_len w; omega
    · have := smL_at h; omega
/-- what a reader's state holds is no longer than what was read -/
def CoS (n : Nat) (s : RdS) : Prop := match s with
  | (st, w, ws) => (st = 0 ∧ smL ws ≤ n ∧ w = []) ∨ (st = 1 ∧ smL ws + w.length ≤ n ∧ plW w = true) ∨ (st = 2 ∧ smL ws + 1 + (esL w).length ≤ n) ∨ (st = 3 ∧ smL ws + 2 + (esL w).length ≤ n) ∨ (st = 4 ∧ smL ws ≤ n + 1 ∧ w = [] ∧ 1 ≤ ws.length)
theorem esL_snoc (w : List Int) (x : Int) : (esL (w ++ [x])).length = (esL w).length + (esB x).length := by rw [esL_app, esL_one, List.length_append]
theorem plW_snoc {w : List Int} {x : Int} (h : plW w = true ∨ w = []) (hx : plB x = true) : plW (w ++ [x]) = true := by
  unfold plW
  rw [List.all_append]
  have h1 : w.all plB = true := by
    rcases h with h | rfl
    · exact (plW_get h).1
    · rfl
  rw [h1]
  simp [hx]
theorem es_pr {x : Int} (h : x = 34 ∨ x = 92 ∨ x = 110 ∨ x = 114) : (esB (prV x)).length = 2 := by
  rcases h with rfl | rfl | rfl | rfl <;> rfl
theorem wt_es (w : List Int) : (wtL w).length ≤ (esL w).length + 2 := by
  cases e : plW w with
  | true => rw [wt_p e]; have := esL_len w; omega
  | false => rw [wt_q e]; unfold qtL; simp only [List.length_append, List.length_cons, List.length_nil]; omega
theorem smL_snoc (ws : List (List Int)) (w : List Int) : smL (ws ++ [w]) = smL ws + (wtL w).length + 1 := by rw [smL_app]; show _ + ((wtL w).length + 1 + 0) = _; omega
theorem CoS.step {n : Nat} {s t : RdS} {x : Int} (h : CoS n s) (e : rd1 s x = some t) : CoS (n + 1) t := by
  obtain ⟨st, w, ws⟩ := s
  rcases h with ⟨rfl, h1, rfl⟩ | ⟨rfl, h1, h2⟩ | ⟨rfl, h1⟩ | ⟨rfl, h1⟩ | ⟨rfl, h1, rfl, h9⟩
  · by_cases hx : x = 34
    · rw [rd_0q rfl hx] at e; cases e
      exact .inr (.inr (.inl ⟨rfl, by show _ + 1 + 0 ≤ _; omega⟩))
    · cases hp : plB x with
      | true =>
        rw [rd_0p rfl hx hp] at e; cases e
        exact .inr (.inl ⟨rfl, by show _ + 1 ≤ _; omega, plW_snoc (.inr rfl) hp⟩)
      | false => rw [rd_0n rfl hx hp] at e; cases e
  · by_cases hx : x = 32
    · rw [rd_1e rfl hx] at e; cases e
      exact .inl ⟨rfl, by rw [smL_snoc, wt_p h2]; omega, rfl⟩
    · cases hp : plB x with
      | true =>
        rw [rd_1p rfl hx hp] at e; cases e
        exact .inr (.inl ⟨rfl, by rw [List.length_append]; show _ + (_ + 1) ≤ _; omega, plW_snoc (.inl h2) hp⟩)
      | false => rw [rd_1n rfl hx hp] at e; cases e
  · by_cases hx : x = 34
    · rw [rd_2e rfl hx] at e; cases e
      exact .inr (.inr (.inr (.inr ⟨rfl, by rw [smL_snoc]; have := wt_es w; omega, rfl, by rw [List.length_append]; show 1 ≤ _ + 1; omega⟩)))
    · by_cases hb : x = 92
      · rw [rd_2b rfl hb] at e; cases e
        exact .inr (.inr (.inr (.inl ⟨rfl, by omega⟩)))
      · by_cases hn : x = 10 ∨ x = 13
        · rw [rd_2n rfl hn] at e; cases e
        · rw [rd_2p rfl hx hb hn] at e; cases e
          exact .inr (.inr (.inl ⟨rfl, by rw [esL_snoc, es_o hx hb (by omega) (by omega)]; show _ + (_ + 1) ≤ _; omega⟩))
  · by_cases hp : x = 34 ∨ x = 92 ∨ x = 110 ∨ x = 114
    · rw [rd_3y rfl hp] at e; cases e
      exact .inr (.inr (.inl ⟨rfl, by rw [esL_snoc, es_pr hp]; omega⟩))
    · rw [rd_3n rfl hp] at e; cases e
  · by_cases hx : x = 32
    · rw [rd_4y (by decide) (by decide) (by decide) (by decide) hx] at e; cases e
      exact .inl ⟨rfl, by omega, rfl⟩
    · rw [rd_4n (by decide) (by decide) (by decide) (by decide) hx] at e; cases e
theorem CoS.all : ∀ (r : List Int) (n : Nat) (s t : RdS), CoS n s → rdF (some s) r = some t → CoS (n + r.length) t
  | [], n, s, t, h, e => by cases e; exact h
  | x :: r, n, s, t, h, e => by
    have e : rdF (rd1 s x) r = some t := e
    cases e1 : rd1 s x with
    | none => rw [e1, rdF_none] at e; cases e
    | some u =>
      rw [e1] at e
      have := CoS.all r (n + 1) u t (h.step e1) e
      rw [List.length_cons, show n + (r.length + 1) = n + 1 + r.length by omega]; exact this
theorem sp_short {l : List Int} {rs : List (List Int)} (h : spO l = some rs) : 1 ≤ rs.length ∧ (jnL rs).length ≤ l.length := by
  unfold spO at h
  cases e : rdF rd0 l with
  | none => rw [e] at h; cases h
  | some t =>
    obtain ⟨st, w, ws⟩ := t
    have hc := CoS.all l 0 _ _ (.inl ⟨rfl, Nat.le_refl _, rfl⟩) e
    rw [Nat.zero_add] at hc
    rw [e] at h
    unfold rdE at h
    rcases hc with ⟨rfl, h1, rfl⟩ | ⟨rfl, h1, h2⟩ | ⟨rfl, h1⟩ | ⟨rfl, h1⟩ | ⟨rfl, h1, rfl, h9⟩
    · cases h
    · cases h
      have h3 : 1 ≤ (ws ++ [w]).length := by rw [List.length_append]; show 1 ≤ _ + 1; omega
      have := jnL_sm h3
      rw [smL_snoc, wt_p h2] at this
      exact ⟨h3, by omega⟩
    · cases h
    · cases h
    · cases h
      have := jnL_sm h9
      exact ⟨h9, by omega⟩
/-- bytes come out as bytes -/
def RB (s : RdS) : Prop := Byt s.2.1 ∧ BytL s.2.2
theorem RB.step {s t : RdS} {x : Int} (hx : 0 ≤ x ∧ x ≤ 255) (h : RB s) (e : rd1 s x = some t) : RB t := by
  obtain ⟨st, w, ws⟩ := s
  obtain ⟨h1, h2⟩ := h
  have ha : ∀ y : Int, 0 ≤ y ∧ y ≤ 255 → Byt (w ++ [y]) := fun y hy => Byt.app h1 (Byt.cons hy Byt.nil)
  unfold rd1 at e
  simp only at e
  repeat' split at e
  all_goals first
    | cases e
    | skip
  all_goals first
    | exact ⟨h1, h2⟩
    | exact ⟨ha _ hx, h2⟩
    | exact ⟨ha _ (prV_rng hx), h2⟩
    | exact ⟨Byt.nil, BytL.snoc h2 h1⟩
theorem RB.all : ∀ (r : List Int) (s t : RdS), Byt r → RB s → rdF (some s) r = some t → RB t
  | [], s, t, _, h, e => by cases e; exact h
  | x :: r, s, t, hb, h, e => by
    have e : rdF (rd1 s x) r = some t := e
    cases e1 : rd1 s x with
    | none => rw [e1, rdF_none] at e; cases e
    | some u =>
      rw [e1] at e
      exact RB.all r u t (fun y hy => hb y (List.mem_cons_of_mem _ hy)) (h.step (hb x (List.mem_cons_self ..)) e1) e
theorem spL_byt {l : List Int} (h : Byt l) : BytL (spL l) := by
  unfold spL
  split
  · split
    · exact BytL.nil
    · cases e : spO l with
      | none => exact BytL.nil
      | some rs =>
        show BytL rs
        unfold spO at e
        cases e1 : rdF rd0 l with
        | none => rw [e1] at e; cases e
        | some t =>
          obtain ⟨st, w, ws⟩ := t
          have hr := RB.all l _ _ h ⟨Byt.nil, BytL.nil⟩ e1
          rw [e1] at e
          unfold rdE at e
          simp only at e
          split at e
          · cases e; exact BytL.snoc hr.2 hr.1
          · split at e
            · cases e; exact hr.2
            · cases e
  · exact BytL.nil
theorem sp_zz {l : List Int} (h : ¬ spE l = 0) : (spL l).length = 0 := by unfold spL; rw [if_neg h]; rfl
theorem sp_get {l : List Int} (h : spE l = 0) (h0 : ¬ l.length = 0) : spO l = some (spL l) ∧ (spL l).length ≤ 64 ∧ l.length ≤ 4096 := by
  have h' := h
  unfold spE at h
  split at h
  · cases h
  · cases e : spO l with
    | none => rw [e] at h; simp [h0] at h
    | some rs =>
      rw [e] at h
      simp only [h0, if_false] at h
      split at h
      · cases h
      · have e2 : spL l = rs := by unfold spL; rw [if_pos h', if_neg h0, e]; rfl
        rw [e2]
        exact ⟨rfl, by omega, by omega⟩
/-- words that make a line come back -/
theorem jn_back {rs : List (List Int)} (h : jnE rs = 0) : spE (jnT rs) = 0 ∧ spL (jnT rs) = rs := by
  cases ho : jnO rs with
  | false => rw [(jn_n ho).1] at h; cases h
  | true =>
    have hg := ho
    unfold jnO at hg
    rw [Bool.and_eq_true, Bool.and_eq_true] at hg
    have g1 := of_decide_eq_true hg.1.1
    have g2 := of_decide_eq_true hg.2
    rw [(jn_y ho).2]
    by_cases h0 : rs.length = 0
    · have : rs = [] := List.length_eq_zero_iff.1 h0
      subst this
      exact sp_zero rfl
    · have h1 := spO_jn (rs := rs) (by omega)
      have h2 := jnL_sm (rs := rs) (by omega)
      have h3 : ¬ (jnL rs).length = 0 := by
        intro h3
        rw [List.length_eq_zero_iff.1 h3] at h1
        cases h1
      exact sp_good (by omega) h3 h1 (by omega)
theorem sp_once {l : List Int} (h : spE l = 0) : jnE (spL l) = 0 ∧ (jnT (spL l)).length ≤ l.length := by
  by_cases h0 : l.length = 0
  · rw [(sp_zero h0).2]
    exact ⟨rfl, Nat.zero_le _⟩
  · obtain ⟨h1, h2, h3⟩ := sp_get h h0
    obtain ⟨h4, h5⟩ := sp_short h1
    have ho : jnO (spL l) = true := jn_ok h2 (fun j hj => by
      have h6 := jnL_sm h4
      have h7 := smL_at (rs := spL l) (w := List.getD (spL l) j []) (by rw [List.getD_eq_getElem?_getD, List.getElem?_eq_getElem hj]; exact List.getElem_mem hj)
      omega) (by omega)
    exact ⟨(jn_y ho).1, by rw [(jn_y ho).2]; exact h5⟩
/-! lines of one word, many times -/
def aW (w : Nat) : List Int := List.replicate w 97
def aL (m w : Nat) : List (List Int) := List.replicate m (aW w)
theorem aW_len (w : Nat) : (aW w).length = w := List.length_replicate
theorem aL_len (m w : Nat) : (aL m w).length = m := List.length_replicate
theorem aW_byt (w : Nat) : Byt (aW w) := Byt.rep w (by omega)
theorem aL_byt (m w : Nat) : BytL (aL m w) := fun l hl => by rw [(List.mem_replicate.1 hl).2]; exact aW_byt w
theorem aW_pl {w : Nat} (h : 1 ≤ w) : plW (aW w) = true := by
  unfold plW
  have h1 : (aW w).all plB = true := List.all_eq_true.2 fun x hx => by rw [(List.mem_replicate.1 hx).2]; rfl
  rw [h1, aW_len]
  exact decide_eq_true (by omega)
theorem aL_sm : ∀ (m w : Nat), 1 ≤ w → smL (aL m w) = m * (w + 1)
  | 0, w, _ => by rw [Nat.zero_mul]; rfl
  | m + 1, w, h => by
    have e : aL (m + 1) w = aW w :: aL m w := rfl
    rw [e, Nat.add_mul]
    show (wtL (aW w)).length + 1 + smL (aL m w) = _
    rw [wt_p (aW_pl h), aW_len, aL_sm m w h]; omega
theorem aL_get {m w j : Nat} (h : j < m) : List.getD (aL m w) j [] = aW w := by
  unfold aL
  rw [List.getD_eq_getElem?_getD, List.getElem?_replicate, if_pos h]; rfl
theorem aL_jn {m w p : Nat} (hm : 1 ≤ m) (hw : 1 ≤ w ∧ w ≤ 4096) (hp : m * (w + 1) = p) : (m ≤ 64 ∧ p - 1 ≤ 4096 ∧ jnE (aL m w) = 0 ∧ (jnT (aL m w)).length = p - 1 ∧ 1 ≤ p) ∨ ((64 < m ∨ 4096 < p - 1) ∧ jnE (aL m w) = 3 ∧ (jnT (aL m w)).length = 0 ∧ 1 ≤ p) := by
  have h1 := jnL_sm (rs := aL m w) (by rw [aL_len]; exact hm)
  rw [aL_sm m w hw.1, hp] at h1
  by_cases h2 : m ≤ 64
  · by_cases h3 : p - 1 ≤ 4096
    · have ho : jnO (aL m w) = true := jn_ok (by rw [aL_len]; exact h2) (fun j hj => by rw [aL_get (by rw [aL_len] at hj; exact hj), aW_len]; exact hw.2) (by omega)
      exact .inl ⟨h2, h3, (jn_y ho).1, by rw [(jn_y ho).2]; omega, by omega⟩
    · have ho := jn_long (rs := aL m w) (by omega)
      exact .inr ⟨.inr (by omega), (jn_n ho).1, by rw [(jn_n ho).2]; rfl, by omega⟩
  · have ho := jn_many (rs := aL m w) (by rw [aL_len]; exact h2)
    exact .inr ⟨.inl (by omega), (jn_n ho).1, by rw [(jn_n ho).2]; rfl, by omega⟩
theorem jnL_two {a b : List (List Int)} (ha : 1 ≤ a.length) (hb : 1 ≤ b.length) : jnL (a ++ b) = jnL a ++ [32] ++ jnL b := by
  cases a with
  | nil => cases ha
  | cons w r =>
    cases b with
    | nil => cases hb
    | cons v s =>
      show wtL w ++ jnM (r ++ v :: s) = wtL w ++ jnM r ++ [32] ++ (wtL v ++ jnM s)
      rw [jnM_app]
      show _ ++ (_ ++ (32 :: wtL v ++ jnM s)) = _
      simp
theorem aL_two {m w q : Nat} (hm : 1 ≤ m) (h : jnE (aL m w) = 0) (hq : (jnT (aL m w)).length = q) : ((4096 < 2 * q + 1 ∨ 64 < 2 * m) ∧ spE (jnT (aL m w) ++ [32] ++ jnT (aL m w)) = 3) ∨ (2 * q + 1 ≤ 4096 ∧ 2 * m ≤ 64 ∧ spE (jnT (aL m w) ++ [32] ++ jnT (aL m w)) = 0 ∧ (spL (jnT (aL m w) ++ [32] ++ jnT (aL m w))).length = 2 * m) := by
  have ho : jnO (aL m w) = true := by
    cases ho : jnO (aL m w) with
    | true => rfl
    | false => rw [(jn_n ho).1] at h; cases h
  rw [(jn_y ho).2] at hq ⊢
  have e := jnL_two (a := aL m w) (b := aL m w) (by rw [aL_len]; exact hm) (by rw [aL_len]; exact hm)
  rw [← e]
  have hl : (jnL (aL m w ++ aL m w)).length = 2 * q + 1 := by rw [e]; simp only [List.length_append, List.length_cons, List.length_nil]; omega
  have h1 := spO_jn (rs := aL m w ++ aL m w) (by rw [List.length_append, aL_len]; omega)
  have h2 : (aL m w ++ aL m w).length = 2 * m := by rw [List.length_append, aL_len]; omega
  by_cases h3 : 4096 < 2 * q + 1
  · exact .inl ⟨.inl h3, (sp_long (by omega)).1⟩
  · by_cases h4 : 64 < 2 * m
    · exact .inl ⟨.inr h4, (sp_many (by omega) (by omega) h1 (by omega)).1⟩
    · have := sp_good (by omega) (by omega) h1 (by omega)
      exact .inr ⟨by omega, by omega, this.1, by rw [this.2]; exact h2⟩
theorem aW_succ (k : Nat) : aW k ++ [97] = aW (k + 1) := by unfold aW; rw [List.replicate_succ']
theorem aL_succ (k w : Nat) : aL k w ++ [aW w] = aL (k + 1) w := by unfold aL; rw [List.replicate_succ']

end Go.Proofs.YtcmldnahohmieaaDoor
