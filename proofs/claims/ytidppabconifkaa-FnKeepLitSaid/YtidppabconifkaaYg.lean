/- What the laws of cities say: plain mathematics of chapter 6. -/
import Derived.Test.YtidppabconifkaaYr
import Derived.Test.YtidppabconifkaaYt
import Derived.Test.YtidppabconifkaaYc
namespace Go.Proofs.Ytidppabconifkaa
set_option linter.unusedVariables false
set_option linter.unusedSimpArgs false

/-! The next cell. -/
theorem nc_three {d c e : Int} {xs : List Int} (h : 0 ≤ ncI d xs c e) : cvB d xs = true ∧ ceB xs c = true ∧ drB e = true := by
  cases hv : (cvB d xs && (ceB xs c && drB e))
  · rw [nc_no hv] at h; omega
  · simpa [and_assoc] using hv
theorem st_ne {d e : Int} (h : 1 ≤ d) (h0 : 0 ≤ e) (h1 : e ≤ 3) : stI d e ≠ 0 := by
  unfold stI; split
  · omega
  · split
    · omega
    · split <;> omega
theorem ce_rng {c : Int} {xs : List Int} (h : ceB xs c = true) : 0 ≤ c ∧ c < xs.length := by unfold ceB at h; simp at h; omega
theorem ce_mk {c : Int} {xs : List Int} (h : 0 ≤ c ∧ c < xs.length) : ceB xs c = true := by unfold ceB; simp; omega
theorem dr_mk {e : Int} (h : 0 ≤ e ∧ e ≤ 3) : drB e = true := by unfold drB; simpa using h
theorem nc_val {d c e : Int} {xs : List Int} (hv : cvB d xs = true) (hc : ceB xs c = true) (he : drB e = true) : ncI d xs c e = (if faN d c e = 0 then -1 else c + stI d e) := by
  have hr := dr_rng he
  rw [nc_yes hv hc he, (nx_far (ce_in hv hc) hr.1 hr.2).1]
theorem nc_law {d c e : Int} {xs : List Int} (h : 0 ≤ ncI d xs c e) : ncI d xs (ncI d xs c e) ((e + 2) % 4) = c ∧ ncI d xs c e ≠ c ∧ ncI d xs c e < xs.length ∧ 0 ≤ e ∧ e ≤ 3 := by
  obtain ⟨hv, hc, he⟩ := nc_three h
  have hr := dr_rng he
  have hin := ce_in hv hc
  rw [nc_val hv hc he] at h ⊢
  by_cases hf : faN d c e = 0
  · rw [if_pos hf] at h; omega
  · rw [if_neg hf] at h ⊢
    have hs := st_in hin hr.1 hr.2 (by omega)
    have ho := opI_in hr.1 hr.2
    have hl := (cvB_iff.1 hv).2.1
    have hx : ceB xs (c + stI d e) = true := ce_mk ⟨hs.1.2.2.1, by have := hs.1.2.2.2; omega⟩
    rw [← opI_mod hr.1 hr.2, nc_val hv hx (dr_mk ⟨ho.1, ho.2.1⟩), if_neg (by rw [hs.2.2]; omega), st_op hr.1 hr.2]
    have := st_ne hin.1 hr.1 hr.2
    exact ⟨by omega, by omega, (ce_rng hx).2, hr.1, hr.2⟩
theorem nc_neg {d c e : Int} {xs : List Int} (h : ncI d xs c e < 0) : ncI d xs c e = -1 := by
  cases hv : (cvB d xs && (ceB xs c && drB e))
  · exact nc_no hv
  · simp only [Bool.and_eq_true] at hv
    have hin := ce_in hv.1 hv.2.1
    have hr := dr_rng hv.2.2
    rw [nc_val hv.1 hv.2.1 hv.2.2] at h ⊢
    by_cases hf : faN d c e = 0
    · rw [if_pos hf]
    · rw [if_neg hf] at h
      have := (st_in hin hr.1 hr.2 (by omega)).1.2.2.1
      omega
/-! Cities turned. -/
def tvI (d t : Int) : Int := t / d + (d - 1 - t % d) * d
theorem tn_tv {d k : Int} (h : InC d k) : tvI d (tnI d k) = k := by
  refine h.all (P := fun d k => tvI d (tnI d k) = k) ?_ ?_ ?_ ?_ ?_ ?_
  all_goals (intro c a b; unfold tvI tnI; omega)
theorem tv_tn {d k : Int} (h : InC d k) : tnI d (tvI d k) = k ∧ 0 ≤ tvI d k ∧ tvI d k < d * d := by
  refine h.all (P := fun d k => tnI d (tvI d k) = k ∧ 0 ≤ tvI d k ∧ tvI d k < d * d) ?_ ?_ ?_ ?_ ?_ ?_
  all_goals (intro c a b; unfold tvI tnI; omega)
theorem tv_four {d k : Int} (h : InC d k) : tvI d (tvI d (tvI d (tvI d k))) = k := by
  refine h.all (P := fun d k => tvI d (tvI d (tvI d (tvI d k))) = k) ?_ ?_ ?_ ?_ ?_ ?_
  all_goals (intro c a b; unfold tvI; omega)
def SqL (d : Int) (xs : List Int) : Prop := 1 ≤ d ∧ d ≤ 6 ∧ (xs.length : Int) = d * d
theorem SqL.inC {d : Int} {xs : List Int} (h : SqL d xs) {i : Nat} (hi : i < xs.length) : InC d i := ⟨h.1, h.2.1, by omega, by have := h.2.2; omega⟩
theorem cv_sq {d : Int} {xs : List Int} (h : cvB d xs = true) : SqL d xs := by
  have := cvB_iff.1 h; exact ⟨this.1.1, this.1.2, this.2.1⟩
def ct1 (d : Int) (xs : List Int) : List Int := ctT d xs xs.length xs.length
theorem ct1_len (d : Int) (xs : List Int) : (ct1 d xs).length = xs.length := ct_len d xs _ _
theorem ctL_ct1 {d : Int} {xs : List Int} (h : cvB d xs = true) : ctL d xs = ct1 d xs := if_pos h
theorem ctD_yes {d : Int} {xs : List Int} (h : cvB d xs = true) : ctD d xs = d := if_pos h
theorem ct_no {d : Int} {xs : List Int} (h : cvB d xs = false) : ctL d xs = [] ∧ ctD d xs = 0 := by unfold ctL ctD; rw [h]; exact ⟨rfl, rfl⟩
theorem tn_ne {d : Int} {j k : Nat} (hj : InC d j) (hk : InC d k) (h : j ≠ k) : (tnI d j).toNat ≠ (tnI d k).toNat := by
  intro e
  have a := tn_in hj; have b := tn_in hk
  have : tnI d j = tnI d k := by omega
  have h1 := tn_tv hj; have h2 := tn_tv hk
  rw [this, h2] at h1; omega
theorem getD_set_self {xs : List Int} {i : Nat} (h : i < xs.length) (v : Int) : (xs.set i v).getD i 0 = v := by simp [h]
theorem getD_set_ne {xs : List Int} {i j : Nat} (h : i ≠ j) (v : Int) : (xs.set i v).getD j 0 = xs.getD j 0 := by
  rw [List.getD_eq_getElem?_getD, List.getD_eq_getElem?_getD, List.getElem?_set_ne h]
theorem ct_put {d : Int} {xs : List Int} (h : SqL d xs) {j : Nat} : ∀ k : Nat, k ≤ xs.length → j < k → (ctT d xs xs.length k).getD (tnI d j).toNat 0 = xs.getD j 0
  | 0, _, hj => by omega
  | k + 1, hk, hj => by
    have hik := h.inC (i := k) (by omega)
    have hb := tn_in hik
    rw [ctT]
    by_cases e : j = k
    · subst e
      exact getD_set_self (by rw [ct_len]; have := h.2.2; omega) _
    · rw [getD_set_ne (tn_ne hik (h.inC (by omega)) (by omega))]
      exact ct_put h k (by omega) (by omega)
theorem ct_rest {d : Int} {xs : List Int} (h : SqL d xs) {j : Nat} (hj : j < xs.length) : ∀ k : Nat, k ≤ j → (ctT d xs xs.length k).getD (tnI d j).toNat 0 = 0
  | 0, _ => by rw [ctT, List.getD_eq_getElem?_getD, List.getElem?_replicate]; split <;> rfl
  | k + 1, hk => by
    rw [ctT, getD_set_ne (tn_ne (h.inC (by omega)) (h.inC hj) (by omega))]
    exact ct_rest h hj k (by omega)
theorem ct1_at {d : Int} {xs : List Int} (h : SqL d xs) {i : Nat} (hi : i < xs.length) : (ct1 d xs).getD i 0 = xs.getD (tvI d i).toNat 0 := by
  have ht := tv_tn (h.inC hi)
  have hl := h.2.2
  have := ct_put h (j := (tvI d i).toNat) xs.length (Nat.le_refl _) (by omega)
  rw [show (((tvI d i).toNat : Nat) : Int) = tvI d i by omega, ht.1] at this
  simpa [ct1] using this
theorem list_ext {xs ys : List Int} (hl : xs.length = ys.length) (h : ∀ i : Nat, i < xs.length → xs.getD i 0 = ys.getD i 0) : xs = ys := by
  refine List.ext_getElem hl (fun i h1 h2 => ?_)
  have := h i h1
  rw [List.getD_eq_getElem?_getD, List.getD_eq_getElem?_getD, List.getElem?_eq_getElem h1, List.getElem?_eq_getElem h2] at this
  simpa using this
theorem ct1_sq {d : Int} {xs : List Int} (h : SqL d xs) : SqL d (ct1 d xs) := ⟨h.1, h.2.1, by rw [ct1_len]; exact h.2.2⟩
theorem ct1_four {d : Int} {xs : List Int} (h : SqL d xs) : ct1 d (ct1 d (ct1 d (ct1 d xs))) = xs := by
  refine list_ext (by simp [ct1_len]) (fun i hi => ?_)
  simp only [ct1_len] at hi
  have h1 := ct1_sq h; have h2 := ct1_sq h1; have h3 := ct1_sq h2
  have hin := fun j : Nat => fun hj : j < xs.length => h.inC hj
  have hl := h.2.2
  have step : ∀ j : Nat, j < xs.length → (tvI d j).toNat < xs.length ∧ (((tvI d j).toNat : Nat) : Int) = tvI d j := fun j hj => by
    have := tv_tn (hin j hj); omega
  have s1 := step i hi
  have s2 := step _ s1.1
  have s3 := step _ s2.1
  have s4 := step _ s3.1
  rw [ct1_at h3 (by simp only [ct1_len]; omega), ct1_at h2 (by simp only [ct1_len]; omega), ct1_at h1 (by simp only [ct1_len]; omega), ct1_at h (by omega)]
  have e4 := tv_four (hin i hi)
  rw [s3.2, s2.2, s1.2, e4]; simp
theorem getD_mem {xs : List Int} {i : Nat} (h : i < xs.length) : xs.getD i 0 ∈ xs := by
  rw [show xs.getD i 0 = xs[i] by simp [h]]; exact List.getElem_mem h
theorem ct1_cv {d : Int} {xs : List Int} (h : cvB d xs = true) : cvB d (ct1 d xs) = true := by
  have hs := cv_sq h
  obtain ⟨h1, h2, h3⟩ := cvB_iff.1 h
  refine cvB_iff.2 ⟨h1, by rw [ct1_len]; exact h2, fun t ht => ?_⟩
  obtain ⟨i, hi, rfl⟩ := List.getElem_of_mem ht
  have hi2 : i < xs.length := by rw [ct1_len] at hi; exact hi
  have e := ct1_at hs hi2
  rw [show (ct1 d xs).getD i 0 = (ct1 d xs)[i] by simp [hi]] at e
  have ht := tv_tn (hs.inC hi2)
  rw [e]; exact h3 _ (getD_mem (by omega))
theorem ct1_corner {d : Int} {xs : List Int} (h : SqL d xs) : (ct1 d xs).getD (d - 1).toNat 0 = xs.getD 0 0 := by
  have hl := h.2.2
  have h0 : 0 < xs.length := by
    have := h.1
    have : 1 * 1 ≤ d * d := Int.mul_le_mul h.1 h.1 (by omega) (by omega)
    omega
  have := ct_put h (j := 0) xs.length (Nat.le_refl _) h0
  rw [show tnI d ((0 : Nat) : Int) = d - 1 by unfold tnI; simp] at this
  exact this
/-! Sums. -/
theorem su_set {L : List Int} {i : Nat} (hi : i < L.length) (v : Int) : ∀ n : Nat, suI (L.set i v) n = suI L n + (if i < n then v - L.getD i 0 else 0)
  | 0 => by simp [suI]
  | n + 1 => by
    rw [suI, suI, su_set hi v n]
    by_cases e : i = n
    · subst e
      rw [getD_set_self hi, if_neg (by omega), if_pos (by omega)]; omega
    · rw [getD_set_ne e]
      by_cases h : i < n
      · rw [if_pos h, if_pos (by omega)]; omega
      · rw [if_neg h, if_neg (by omega)]; omega
theorem su_rep (n m : Nat) : suI (List.replicate m 0) n = 0 := by
  induction n with
  | zero => rfl
  | succ n ih => rw [suI, ih, List.getD_eq_getElem?_getD, List.getElem?_replicate]; split <;> rfl
theorem su_ct {d : Int} {xs : List Int} (h : SqL d xs) : ∀ k : Nat, k ≤ xs.length → suI (ctT d xs xs.length k) xs.length = suI xs k
  | 0, _ => by rw [ctT, su_rep]; rfl
  | k + 1, hk => by
    have hb := tn_in (h.inC (i := k) (by omega))
    have hl := h.2.2
    rw [ctT, su_set (by rw [ct_len]; omega), su_ct h k (by omega), if_pos (by omega), ct_rest h (j := k) (by omega) k (Nat.le_refl _), suI]; omega
theorem su_turn {d : Int} {xs : List Int} (h : SqL d xs) : suI (ct1 d xs) (ct1 d xs).length = suI xs xs.length := by rw [ct1_len]; exact su_ct h _ (Nat.le_refl _)
theorem cs_yes {d : Int} {xs : List Int} (h : cvB d xs = true) : csI d xs = suI xs xs.length := if_pos h
theorem cs_no {d : Int} {xs : List Int} (h : cvB d xs = false) : csI d xs = -1 := by unfold csI; rw [h]; rfl
/-! The light falls from cell to cell. -/
theorem sh_fall {d : Int} {xs : List Int} {e f c : Int} (h : InC d c) (h0 : 0 ≤ e) (h1 : e ≤ 3) : shI d xs e f c = if faN d c e = 0 then 0 else max (max (shI d xs e f (c + stI d e)) (tlI xs (c + stI d e)) - f) 0 := by
  by_cases hf : faN d c e = 0
  · rw [if_pos hf]; exact sh_edge hf
  · rw [if_neg hf]
    have hs := st_in h h0 h1 (by omega)
    unfold shI
    obtain ⟨n, hn⟩ : ∃ n, faN d c e = n + 1 := ⟨faN d c e - 1, by omega⟩
    rw [hn, show faN d (c + stI d e) e = n by omega]; rfl
/-! Who is higher is never darker. -/
theorem tl_set_ne {xs : List Int} {c v x : Int} (h : x.toNat ≠ c.toNat) : tlI (xs.set c.toNat v) x = tlI xs x := by
  unfold tlI; exact getD_set_ne (fun e => h e.symm) v
theorem tl_set_self {xs : List Int} {c v : Int} (h : c.toNat < xs.length) : tlI (xs.set c.toNat v) c = v := by unfold tlI; exact getD_set_self h v
theorem cv_set {d : Int} {xs : List Int} {c t : Int} (h : cvB d xs = true) (ht : tlB t = true) : cvB d (xs.set c.toNat t) = true := by
  obtain ⟨h1, h2, h3⟩ := cvB_iff.1 h
  refine cvB_iff.2 ⟨h1, by rw [List.length_set]; exact h2, fun x hx => ?_⟩
  rcases List.mem_or_eq_of_mem_set hx with h4 | h4
  · exact h3 x h4
  · subst h4; exact tlB_iff.1 ht
theorem dk_higher {d : Int} {xs : List Int} {e f c : Int} (hv : cvB d xs = true) (hc : ceB xs c = true) (he : drB e = true) (hf : 0 ≤ f) (ht : tlI xs c + 1 ≤ 20) (h : dkB d xs e f c = false) : dkB d (xs.set c.toNat (tlI xs c + 1)) e f c = false := by
  have hr := dr_rng he
  have hin := ce_in hv hc
  have hcr := ce_rng hc
  have htl := tlI_rng hv c
  have hv2 : cvB d (xs.set c.toNat (tlI xs c + 1)) = true := cv_set hv (tlB_iff.2 ⟨by omega, ht⟩)
  rw [← Bool.not_eq_true] at h ⊢
  intro hd
  apply h
  rw [dkB_iff hv hf]
  rw [dkB_iff hv2 hf, tl_set_self (by omega)] at hd
  obtain ⟨i, i0, i1, hlt⟩ := hd
  refine ⟨i, i0, i1, ?_⟩
  have hln := ln_in hin hr.1 hr.2 i1
  unfold rgI at hlt ⊢
  have hne : (c + stI d e * i).toNat ≠ c.toNat := by
    have hi := hln.1.2.2.1
    unfold lnI at hi
    have hs := st_ne hin.1 hr.1 hr.2
    have : stI d e * (i : Int) ≠ 0 := by
      intro e0
      rcases Int.mul_eq_zero.1 e0 with e1 | e1
      · exact hs e1
      · omega
    omega
  rw [tl_set_ne hne] at hlt
  omega
theorem dk_fall {d : Int} {xs : List Int} {e f c : Int} (hv : cvB d xs = true) (hf : 0 ≤ f) (h : dkB d xs e f c = false) : dkB d xs e (f + 1) c = false := by
  rw [← Bool.not_eq_true] at h ⊢
  intro hd
  apply h
  rw [dkB_iff hv hf]
  rw [dkB_iff hv (by omega)] at hd
  obtain ⟨i, i0, i1, hlt⟩ := hd
  refine ⟨i, i0, i1, ?_⟩
  unfold rgI at hlt ⊢
  have : (f + 1) * (i : Int) = f * i + i := by grind
  omega
/-! The highest cells are lit; turned, as many are. -/
theorem dk_high {d : Int} {xs : List Int} {e f c : Int} (hv : cvB d xs = true) (hf : 0 ≤ f) (h : ∀ x : Int, tlI xs x ≤ tlI xs c) : dkB d xs e f c = false := by
  rw [← Bool.not_eq_true]
  intro hd
  obtain ⟨i, i0, i1, hlt⟩ := (dkB_iff hv hf).1 hd
  unfold rgI at hlt
  have := h (c + stI d e * i)
  have : 0 ≤ f * (i : Int) := Int.mul_nonneg hf (by omega)
  omega
theorem turn_dir {d k e : Int} (h : InC d k) (h0 : 0 ≤ e) (h1 : e ≤ 3) : faN d (tnI d k) ((e + 1) % 4) = faN d k e ∧ (0 < faN d k e → tnI d (k + stI d e) = tnI d k + stI d ((e + 1) % 4)) := by
  have a0 : (tnI d k / d = k % d ∧ (d - 1 - tnI d k % d) = k / d ∧ tnI d k % d = d - 1 - k / d) := by
    refine h.all (P := fun d k => (tnI d k / d = k % d ∧ (d - 1 - tnI d k % d) = k / d ∧ tnI d k % d = d - 1 - k / d)) ?_ ?_ ?_ ?_ ?_ ?_
    all_goals (intro c a b; unfold tnI; omega)
  have a1 : (k % d < d - 1 → tnI d (k + 1) = tnI d k + d) ∧ (0 < k % d → tnI d (k - 1) = tnI d k - d) ∧ tnI d (k + d) = tnI d k - 1 ∧ tnI d (k - d) = tnI d k + 1 := by
    refine h.all (P := fun d k => (k % d < d - 1 → tnI d (k + 1) = tnI d k + d) ∧ (0 < k % d → tnI d (k - 1) = tnI d k - d) ∧ tnI d (k + d) = tnI d k - 1 ∧ tnI d (k - d) = tnI d k + 1) ?_ ?_ ?_ ?_ ?_ ?_
    all_goals (intro c a b; unfold tnI; omega)
  have e4 : e = 0 ∨ e = 1 ∨ e = 2 ∨ e = 3 := by omega
  rcases e4 with rfl | rfl | rfl | rfl
  · refine ⟨?_, ?_⟩
    · show (d - 1 - tnI d k / d).toNat = (d - 1 - k % d).toNat
      rw [a0.1]
    · show 0 < (d - 1 - k % d).toNat → tnI d (k + 1) = tnI d k + d
      intro hp; exact a1.1 (by omega)
  · refine ⟨?_, ?_⟩
    · show (tnI d k % d).toNat = (d - 1 - k / d).toNat
      rw [a0.2.2]
    · show 0 < (d - 1 - k / d).toNat → tnI d (k + d) = tnI d k + -1
      intro hp; have := a1.2.2.1; omega
  · refine ⟨?_, ?_⟩
    · show (tnI d k / d).toNat = (k % d).toNat
      rw [a0.1]
    · show 0 < (k % d).toNat → tnI d (k + -1) = tnI d k + -d
      intro hp; have := a1.2.1 (by omega); rw [show k + -1 = k - 1 by omega]; omega
  · refine ⟨?_, ?_⟩
    · show (d - 1 - tnI d k % d).toNat = (k / d).toNat
      rw [a0.2.1]
    · show 0 < (k / d).toNat → tnI d (k + -d) = tnI d k + 1
      intro hp; have := a1.2.2.2; rw [show k + -d = k - d by omega]; omega
theorem turn_line {d k e : Int} (h : InC d k) (h0 : 0 ≤ e) (h1 : e ≤ 3) : ∀ i : Nat, i ≤ faN d k e → tnI d (lnI d k e i) = lnI d (tnI d k) ((e + 1) % 4) i
  | 0, _ => by rw [ln_zero, ln_zero]
  | i + 1, hi => by
    have ih := turn_line h h0 h1 i (by omega)
    have hln := ln_in h h0 h1 (j := i) (by omega)
    rw [ln_succ, ln_succ, (turn_dir hln.1 h0 h1).2 (by omega), ih]
theorem turn_tl {d : Int} {xs : List Int} (h : SqL d xs) {x : Int} (hx : InC d x) : tlI (ct1 d xs) (tnI d x) = tlI xs x := by
  have hl := h.2.2
  have := ct_put h (j := x.toNat) xs.length (Nat.le_refl _) (by have := hx.2.2; omega)
  rw [show ((x.toNat : Nat) : Int) = x by have := hx.2.2.1; omega] at this
  exact this
theorem turn_dk {d : Int} {xs : List Int} {k e f : Int} (hv : cvB d xs = true) (h : InC d k) (h0 : 0 ≤ e) (h1 : e ≤ 3) (hf : 0 ≤ f) : dkB d (ct1 d xs) ((e + 1) % 4) f (tnI d k) = dkB d xs e f k := by
  have hs := cv_sq hv
  have ht := (turn_dir h h0 h1).1
  rw [Bool.eq_iff_iff, dkB_iff hv hf, dkB_iff (ct1_cv hv) hf, ht, turn_tl hs h]
  have key : ∀ i : Nat, 1 ≤ i → i ≤ faN d k e → rgI (ct1 d xs) (stI d ((e + 1) % 4)) f (tnI d k) i = rgI xs (stI d e) f k i := fun i _ hi => by
    have hl := turn_line h h0 h1 i hi
    have hin := (ln_in h h0 h1 hi).1
    rw [rg_at, rg_at, ← hl, turn_tl hs hin]
  constructor
  · rintro ⟨i, a, b, c⟩; exact ⟨i, a, b, by rw [key i a b] at c; exact c⟩
  · rintro ⟨i, a, b, c⟩; exact ⟨i, a, b, by rw [key i a b]; exact c⟩
def ltG (d : Int) (xs : List Int) (e f : Int) (n : Nat) : List Int := mkI (fun i => if dkB d xs e f (i : Nat) = true then 0 else 1) n
theorem lt_sum (d : Int) (xs : List Int) (e f : Int) (n : Nat) : ∀ k : Nat, k ≤ n → ((ltL d xs e f k).length : Int) = suI (ltG d xs e f n) k
  | 0, _ => rfl
  | k + 1, hk => by
    have ih := lt_sum d xs e f n k (by omega)
    have hg : (ltG d xs e f n).getD k 0 = if dkB d xs e f (k : Nat) = true then 0 else 1 := by
      have hl : k < (ltG d xs e f n).length := by unfold ltG; rw [mk_len]; omega
      rw [show (ltG d xs e f n).getD k 0 = (ltG d xs e f n)[k] by simp [hl]]; exact mk_at _ _ _ _
    rw [suI, hg]
    cases hd : dkB d xs e f (k : Nat)
    · rw [ltL_yes hd, List.length_append]; simp [← ih]
    · rw [ltL_no hd]; simp [ih]
theorem lt_turn {d : Int} {xs : List Int} {e f : Int} (h : okB d xs e f = true) : (liL d (ct1 d xs) ((e + 1) % 4) f).length = (liL d xs e f).length := by
  obtain ⟨hv, he, hf⟩ := okB_iff.1 h
  have hs := cv_sq hv
  have hok2 : okB d (ct1 d xs) ((e + 1) % 4) f = true := okB_iff.2 ⟨ct1_cv hv, by omega, hf⟩
  rw [li_yes h, li_yes hok2, ct1_len]
  have e1 := lt_sum d xs e f xs.length xs.length (Nat.le_refl _)
  have e2 := lt_sum d (ct1 d xs) ((e + 1) % 4) f xs.length xs.length (Nat.le_refl _)
  have hG : SqL d (ltG d xs e f xs.length) := ⟨hs.1, hs.2.1, by unfold ltG; rw [mk_len]; exact hs.2.2⟩
  have hst := su_turn hG
  have hGl : (ltG d xs e f xs.length).length = xs.length := by unfold ltG; rw [mk_len]
  have hEq : ct1 d (ltG d xs e f xs.length) = ltG d (ct1 d xs) ((e + 1) % 4) f xs.length := by
    refine list_ext (by rw [ct1_len, hGl]; unfold ltG; rw [mk_len]) (fun i hi => ?_)
    rw [ct1_len, hGl] at hi
    have hin := hs.inC hi
    have ht := tv_tn hin
    have hl := hs.2.2
    rw [ct1_at hG (by rw [hGl]; exact hi)]
    have hv2 : (tvI d i).toNat < xs.length := by omega
    have g1 : ∀ (ys : List Int) (e' : Int) (j : Nat), j < xs.length → (ltG d ys e' f xs.length).getD j 0 = if dkB d ys e' f (j : Nat) = true then 0 else 1 := fun ys e' j hj => by
      have hl2 : j < (ltG d ys e' f xs.length).length := by unfold ltG; rw [mk_len]; omega
      rw [show (ltG d ys e' f xs.length).getD j 0 = (ltG d ys e' f xs.length)[j] by simp [hl2]]; exact mk_at _ _ _ _
    rw [g1 xs e _ hv2, g1 (ct1 d xs) _ i hi]
    have hin2 : InC d (tvI d i) := ⟨hs.1, hs.2.1, ht.2.1, ht.2.2⟩
    have hd := turn_dk hv hin2 he.1 he.2 hf.1
    rw [ht.1] at hd
    rw [show (((tvI d i).toNat : Nat) : Int) = tvI d i by omega, hd]
  rw [hEq] at hst
  have hll : (ltG d (ct1 d xs) ((e + 1) % 4) f xs.length).length = xs.length := by unfold ltG; rw [mk_len]
  rw [hll, hGl] at hst
  omega
end Go.Proofs.Ytidppabconifkaa
