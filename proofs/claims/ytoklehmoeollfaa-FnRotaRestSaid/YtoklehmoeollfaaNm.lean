/- Contracts of chapter 9: RotaRest. -/
import Derived.Test.YtoklehmoeollfaaNl
namespace Go.Proofs.Ytoklehmoeollfaa
open Go Go.ChangeShapes Go.WideShapes Go.ChangeAt Go.RowKit
set_option linter.unusedSimpArgs false
set_option linter.unusedVariables false

set_option maxRecDepth 100000 in
set_option maxHeartbeats 4000000 in
theorem iRr_is (A : Option Addr) (cap : Nat) (hs : List VH) (rows : List (List Int)) {n : Nat} {r : Int} (w : World) (hn : rows.length = n) (h : NRow w A hs rows) (hl : n ≤ 2000000) (hrl : ∀ j (hj : j < rows.length), rows[j].length ≤ 2000000) (hr : RrI rows r) :
    Calls Try.prog 15 #[.slice A n cap] w fun E w' => E = .returned (.int .i64 r) ∧ Below w.heap.size w w' := by
  rcases hr with ⟨hv, rfl⟩ | ⟨hv, hr⟩
  · have HV := Lib.hid hv
    have HRL := Lib.hid hrl
    have HN := Lib.hid hn
    clear hv hrl hn
    go_enter Try.func15, Try.ntmps15
    go_wp2_with fail
    refine (iRv_is A cap hs rows _ HN.out h hl HRL.out HV.out).mono ?_; rintro E w1 ⟨rfl, hw1⟩
    go_wp2
    go_ret
    exact ⟨rfl, hw1⟩
  · have HV := Lib.hid hv
    have hok := rvB_iff.1 hv
    have h8 : n ≤ 8 := by rw [← hn]; exact hok.1
    have HLN : Hid (∀ j, j < n → (rwK rows j).length = (rwK rows 0).length ∧ (rwK rows j).length ≤ 6) := Lib.hid (fun j hj => by have := hok.2 j (by omega); exact ⟨this.2.1, this.1⟩)
    have HRS := Lib.hid hr
    have HRL := Lib.hid hrl
    have HN := Lib.hid hn
    clear hv hok hr hrl hn
    go_enter Try.func15, Try.ntmps15
    go_wp2_with fail
    refine (iRv_is A cap hs rows _ HN.out h hl HRL.out HV.out).mono ?_; rintro E w1 ⟨rfl, hw1⟩
    go_wp2_with fail
    go_loopw [3, 14] (fun rv kv wr => ∃ (k : Nat) (u : Int), kv = .int .i64 k ∧ rv = .int .i64 u ∧ k ≤ n ∧ Hid (RestK rows (fun y z b => z < k) u) ∧ Below w.heap.size w wr) (fun _ kv _ => (n - intOf kv).toNat)
    case atStart => exact ⟨0, 8, rfl, rfl, by omega, Lib.hid (RestK.start (fun y z b c => absurd c (Nat.not_lt_zero _))), hw1⟩
    case round =>
      clear hw1
      obtain ⟨k, u, rfl, rfl, k1, HK, hB⟩ := hrel
      by_cases hlt : k < n
      · have hk : k < rows.length := by rw [HN.out]; exact hlt
        have hki : (k : Int) < (n : Int) := by omega
        obtain ⟨b, off, rfl, hb, hget⟩ := h.get hk
        have HG := Lib.hid hget
        clear hget
        obtain ⟨H, q, cc, hq, d9, hrow9⟩ := HG.out k hk
        have hq6 : q ≤ 6 := by have := (HLN.out k hlt).2; rw [rwK_at hk, hq] at this; exact this
        have HQ := Lib.hid hq
        clear hq
        have d := celS_next d9 hB
        go_wp2_with fail
        go_loopw [3, 20] (fun rv jv wr => ∃ (j : Nat) (u : Int), jv = .int .i64 j ∧ rv = .int .i64 u ∧ j ≤ k ∧ Hid (RestK rows (fun y z b => z < k ∨ (z = k ∧ y < j)) u) ∧ Below w.heap.size w wr) (fun _ jv _ => (n - intOf jv).toNat)
        case atStart => exact ⟨0, u, rfl, rfl, by omega, Lib.hid (HK.out.same (fun y z b c e => by rcases c with c | ⟨_, c⟩ <;> omega)), hB⟩
        case round =>
          clear HK hB d
          obtain ⟨j, u, rfl, rfl, j1, HK, hB⟩ := hrel
          by_cases hjt : j < k
          · have hjn : j < n := by omega
            have hji : (j : Int) < (k : Int) := by omega
            have hjni : (j : Int) < (n : Int) := by omega
            have hj : j < rows.length := by rw [HN.out]; exact hjn
            obtain ⟨H2, q2, cc2, hq2, e9, hrow29⟩ := HG.out j hj
            have hqq : q2 = q := by have := (HLN.out j hjn).1; have h2 := (HLN.out k hlt).1; rw [rwK_at hj, hq2] at this; rw [rwK_at hk, HQ.out] at h2; omega
            subst hqq
            have HQ2 := Lib.hid hq2
            clear hq2
            have d := celS_next d9 hB
            have e := celS_next e9 hB
            go_wp2_with fail
            go_loopw [3, 25] (fun rv cv wr => ∃ (c : Nat) (u : Int), cv = .int .i64 c ∧ rv = .int .i64 u ∧ c ≤ q2 ∧ Hid (RestK rows (fun y z b => z < k ∨ (z = k ∧ (y < j ∨ (y = j ∧ b < c)))) u) ∧ Below w.heap.size w wr) (fun _ cv _ => (q2 - intOf cv).toNat)
            case atStart => exact ⟨0, u, rfl, rfl, by omega, Lib.hid (HK.out.same (fun y z b c e => by rcases c with c | ⟨c0, c | ⟨_, c⟩⟩ <;> omega)), hB⟩
            case round =>
              clear HK hB d e
              obtain ⟨c, u, rfl, rfl, c1, HK, hB⟩ := hrel
              have d := celS_next d9 hB
              have e := celS_next e9 hB
              by_cases hct : c < q2
              · have hci : (c : Int) < (q2 : Int) := by omega
                have hc : c < rows[k].length := by rw [HQ.out]; exact hct
                have hc2 : c < rows[j].length := by rw [HQ2.out]; exact hct
                obtain ⟨g1, o1, rfl, hg1, x0⟩ := rowNum (hrow9.next hB) hc
                obtain ⟨g2, o2, rfl, hg2, y0⟩ := rowNum (hrow29.next hB) hc2
                have hit : rows[j][c] = rows[k][c] → HitR rows j k c := fun e => ⟨by omega, by omega, by rw [rwK_at hj]; exact hc2, by rw [rwK_at hj, rwK_at hk]; simp only [List.getD, List.getElem?_eq_getElem hc2, List.getElem?_eq_getElem hc, Option.getD_some]; exact e⟩
                have miss : HitR rows j k c → rows[j][c] = rows[k][c] := fun e => by have := e.2.2.2; rw [rwK_at hj, rwK_at hk] at this; simpa only [List.getD, List.getElem?_eq_getElem hc2, List.getElem?_eq_getElem hc, Option.getD_some] using this
                have HHit := Lib.hid hit
                have HMiss := Lib.hid miss
                clear hit miss
                generalize rows[k][c] = a at x0 HHit HMiss
                generalize rows[j][c] = a2 at y0 HHit HMiss
                have hu0 := HK.out.lo
                have hu1 := HK.out.hi
                by_cases heq : a2 = a
                · have hnew : RestK rows (fun y z b => z < k ∨ (z = k ∧ (y < j ∨ (y = j ∧ b < c + 1)))) (min u ((k : Int) - (j : Int))) := HK.out.hit (HHit.out heq) (fun y z b s e => by
                    by_cases e1 : y = j ∧ z = k
                    · right; rw [e1.1, e1.2]
                    · left; rcases s with s | ⟨s0, s | ⟨s1, s2⟩⟩ <;> omega)
                  by_cases hmn : u ≤ (k : Int) - (j : Int)
                  · have HN9 : Hid (RestK rows (fun y z b => z < k ∨ (z = k ∧ (y < j ∨ (y = j ∧ b < c + 1)))) u) := Lib.hid (by rw [show min u ((k : Int) - (j : Int)) = u by omega] at hnew; exact hnew)
                    have hb1 : (a2 == a) = true := by simp [heq]
                    have HEQ := Lib.hid heq
                    clear hnew heq HK HHit HMiss
                    go_wp2_with fail
                    clear hb1
                    go_wp2_with fail
                    go_roundw
                    case rel => exact ⟨c + 1, u, by go_num, rfl, by omega, HN9, hB⟩
                    case measure => simp [intOf]; omega
                  · have HN9 : Hid (RestK rows (fun y z b => z < k ∨ (z = k ∧ (y < j ∨ (y = j ∧ b < c + 1)))) ((k : Int) - (j : Int))) := Lib.hid (by rw [show min u ((k : Int) - (j : Int)) = (k : Int) - (j : Int) by omega] at hnew; exact hnew)
                    have hb1 : (a2 == a) = true := by simp [heq]
                    have hmn2 : (k : Int) - (j : Int) < u := by omega
                    have HEQ := Lib.hid heq
                    clear hnew heq HK HHit HMiss
                    go_wp2_with fail
                    clear hb1
                    go_wp2_with fail
                    go_roundw
                    case rel => exact ⟨c + 1, _, by go_num, rfl, by omega, HN9, hB⟩
                    case measure => simp [intOf]; omega
                · have HN9 : Hid (RestK rows (fun y z b => z < k ∨ (z = k ∧ (y < j ∨ (y = j ∧ b < c + 1)))) u) := Lib.hid (HK.out.same (fun y z b s eh => by
                    by_cases e1 : y = j ∧ z = k ∧ b = c
                    · exact absurd (HMiss.out (by rw [← e1.1, ← e1.2.1, ← e1.2.2]; exact eh)) heq
                    · rcases s with s | ⟨s0, s | ⟨s1, s2⟩⟩ <;> omega))
                  have hb1 : (a2 == a) = false := by simpa using heq
                  have HEQ := Lib.hid heq
                  clear heq HK HHit HMiss
                  go_wp2_with fail
                  clear hb1
                  go_wp2_with fail
                  go_roundw
                  case rel => exact ⟨c + 1, u, by go_num, rfl, by omega, HN9, hB⟩
                  case measure => simp [intOf]; omega
              · have hci : ¬ (c : Int) < (q2 : Int) := by omega
                have HN9 : Hid (RestK rows (fun y z b => z < k ∨ (z = k ∧ y < j + 1)) u) := Lib.hid (HK.out.same (fun y z b s e => by
                have hb9 := e.2.2.1
                by_cases e1 : y = j ∧ z = k
                · rw [e1.1, rwK_at hj, HQ2.out] at hb9; omega
                · rcases s with s | ⟨s0, s⟩ <;> omega))
                clear HK
                go_wp2_with fail
                go_roundw
                case rel => exact ⟨j + 1, u, by go_num, rfl, by omega, HN9, hB⟩
                case measure => simp [intOf]; omega
          · have hji : ¬ (j : Int) < (k : Int) := by omega
            have HN9 : Hid (RestK rows (fun y z b => z < k + 1) u) := Lib.hid (HK.out.same (fun y z b s e => by have h1 := e.1; have h2 := e.2.1; rw [HN.out] at h2; omega))
            clear HK
            go_wp2_with fail
            go_roundw
            case rel => exact ⟨k + 1, u, by go_num, rfl, by omega, HN9, hB⟩
            case measure => simp [intOf]; omega
      · have hki : ¬ (k : Int) < (n : Int) := by omega
        have HU : Hid (u = r) := Lib.hid (RestIs.unique (HK.out.done (fun y z b e => by have h1 := e.1; have h2 := e.2.1; rw [HN.out] at h2; omega)) HRS.out)
        clear HK
        go_wp2_with fail
        go_ret
        exact ⟨ret_int HU.out, hB⟩
set_option maxRecDepth 100000 in
set_option maxHeartbeats 4000000 in
theorem sRr_is (A : Option Addr) (cap : Nat) (hs : List VH) (rows : List (List Int)) {n : Nat} {r : Int} (w : World) (hn : rows.length = n) (h : NRow w A hs rows) (hl : n ≤ 2000000) (hrl : ∀ j (hj : j < rows.length), rows[j].length ≤ 2000000) (hr : RrI rows r) :
    Calls Try.prog 16 #[.slice A n cap] w fun E w' => E = .returned (.int .i64 r) ∧ Below w.heap.size w w' := by
  rcases hr with ⟨hv, rfl⟩ | ⟨hv, hr⟩
  · have HV := Lib.hid hv
    have HRL := Lib.hid hrl
    have HN := Lib.hid hn
    clear hv hrl hn
    go_enter Try.func16, Try.ntmps16
    go_wp2_with fail
    refine (sRv_is A cap hs rows _ HN.out h hl HRL.out HV.out).mono ?_; rintro E w1 ⟨rfl, hw1⟩
    go_wp2
    go_ret
    exact ⟨rfl, hw1⟩
  · have HV := Lib.hid hv
    have hok := rvB_iff.1 hv
    have h8 : n ≤ 8 := by rw [← hn]; exact hok.1
    have HLN : Hid (∀ j, j < n → (rwK rows j).length = (rwK rows 0).length ∧ (rwK rows j).length ≤ 6) := Lib.hid (fun j hj => by have := hok.2 j (by omega); exact ⟨this.2.1, this.1⟩)
    have HRS := Lib.hid hr
    have HRL := Lib.hid hrl
    have HN := Lib.hid hn
    clear hv hok hr hrl hn
    go_enter Try.func16, Try.ntmps16
    go_wp2_with fail
    refine (sRv_is A cap hs rows _ HN.out h hl HRL.out HV.out).mono ?_; rintro E w1 ⟨rfl, hw1⟩
    go_wp2_with fail
    go_loopw [3, 4] (fun rv kv wr => ∃ (k : Nat) (u : Int), kv = .int .i64 k ∧ rv = .int .i64 u ∧ k ≤ n ∧ Hid (RestK rows (fun y z b => y < k) u) ∧ Below w.heap.size w wr) (fun _ kv _ => (n - intOf kv).toNat)
    case atStart => exact ⟨0, 8, rfl, rfl, by omega, Lib.hid (RestK.start (fun y z b c => absurd c (Nat.not_lt_zero _))), hw1⟩
    case round =>
      clear hw1
      obtain ⟨k, u, rfl, rfl, k1, HK, hB⟩ := hrel
      by_cases hlt : k < n
      · have hk : k < rows.length := by rw [HN.out]; exact hlt
        have hki : (k : Int) < (n : Int) := by omega
        obtain ⟨b, off, rfl, hb, hget⟩ := h.get hk
        have HG := Lib.hid hget
        clear hget
        obtain ⟨H, q, cc, hq, d9, hrow9⟩ := HG.out k hk
        have hq6 : q ≤ 6 := by have := (HLN.out k hlt).2; rw [rwK_at hk, hq] at this; exact this
        have HQ := Lib.hid hq
        clear hq
        have d := celS_next d9 hB
        go_wp2_with fail
        go_loopw [3, 5] (fun rv jv wr => ∃ (j : Nat) (u : Int), jv = .int .i64 j ∧ rv = .int .i64 u ∧ k < j ∧ j ≤ n ∧ Hid (RestK rows (fun y z b => y < k ∨ (y = k ∧ z < j)) u) ∧ Below w.heap.size w wr) (fun _ jv _ => (n - intOf jv).toNat)
        case atStart => exact ⟨k + 1, u, by go_num, rfl, by omega, by omega, Lib.hid (HK.out.same (fun y z b c e => by have := e.1; rcases c with c | ⟨c, c2⟩ <;> omega)), hB⟩
        case round =>
          clear HK hB d
          obtain ⟨j, u, rfl, rfl, j0, j1, HK, hB⟩ := hrel
          by_cases hjt : j < n
          · have hjn : j < n := by omega
            have hji : (j : Int) < (n : Int) := by omega
            have hjni : (j : Int) < (n : Int) := by omega
            have hj : j < rows.length := by rw [HN.out]; exact hjn
            obtain ⟨H2, q2, cc2, hq2, e9, hrow29⟩ := HG.out j hj
            have hqq : q2 = q := by have := (HLN.out j hjn).1; have h2 := (HLN.out k hlt).1; rw [rwK_at hj, hq2] at this; rw [rwK_at hk, HQ.out] at h2; omega
            subst hqq
            have HQ2 := Lib.hid hq2
            clear hq2
            have d := celS_next d9 hB
            have e := celS_next e9 hB
            go_wp2_with fail
            go_loopw [3, 6] (fun rv cv wr => ∃ (c : Nat) (u : Int), cv = .int .i64 c ∧ rv = .int .i64 u ∧ c ≤ q2 ∧ Hid (RestK rows (fun y z b => y < k ∨ (y = k ∧ (z < j ∨ (z = j ∧ b < c)))) u) ∧ Below w.heap.size w wr) (fun _ cv _ => (q2 - intOf cv).toNat)
            case atStart => exact ⟨0, u, rfl, rfl, by omega, Lib.hid (HK.out.same (fun y z b c e => by rcases c with c | ⟨c0, c | ⟨_, c⟩⟩ <;> omega)), hB⟩
            case round =>
              clear HK hB d e
              obtain ⟨c, u, rfl, rfl, c1, HK, hB⟩ := hrel
              have d := celS_next d9 hB
              have e := celS_next e9 hB
              by_cases hct : c < q2
              · have hci : (c : Int) < (q2 : Int) := by omega
                have hc : c < rows[k].length := by rw [HQ.out]; exact hct
                have hc2 : c < rows[j].length := by rw [HQ2.out]; exact hct
                obtain ⟨g1, o1, rfl, hg1, x0⟩ := rowNum (hrow9.next hB) hc
                obtain ⟨g2, o2, rfl, hg2, y0⟩ := rowNum (hrow29.next hB) hc2
                have hit : rows[k][c] = rows[j][c] → HitR rows k j c := fun e => ⟨by omega, by omega, by rw [rwK_at hk]; exact hc, by rw [rwK_at hk, rwK_at hj]; simp only [List.getD, List.getElem?_eq_getElem hc, List.getElem?_eq_getElem hc2, Option.getD_some]; exact e⟩
                have miss : HitR rows k j c → rows[k][c] = rows[j][c] := fun e => by have := e.2.2.2; rw [rwK_at hk, rwK_at hj] at this; simpa only [List.getD, List.getElem?_eq_getElem hc, List.getElem?_eq_getElem hc2, Option.getD_some] using this
                have HHit := Lib.hid hit
                have HMiss := Lib.hid miss
                clear hit miss
                generalize rows[k][c] = a at x0 HHit HMiss
                generalize rows[j][c] = a2 at y0 HHit HMiss
                have hu0 := HK.out.lo
                have hu1 := HK.out.hi
                by_cases heq : a2 = a
                · have hnew : RestK rows (fun y z b => y < k ∨ (y = k ∧ (z < j ∨ (z = j ∧ b < c + 1)))) (min u ((j : Int) - (k : Int))) := HK.out.hit (HHit.out heq.symm) (fun y z b s e => by
                    by_cases e1 : y = k ∧ z = j
                    · right; rw [e1.1, e1.2]
                    · left; rcases s with s | ⟨s0, s | ⟨s1, s2⟩⟩ <;> omega)
                  by_cases hmn : u ≤ (j : Int) - (k : Int)
                  · have HN9 : Hid (RestK rows (fun y z b => y < k ∨ (y = k ∧ (z < j ∨ (z = j ∧ b < c + 1)))) u) := Lib.hid (by rw [show min u ((j : Int) - (k : Int)) = u by omega] at hnew; exact hnew)
                    have hb1 : (a == a2) = true := by simp [heq]
                    have HEQ := Lib.hid heq
                    clear hnew heq HK HHit HMiss
                    go_wp2_with fail
                    refine wp_region_held_drew (S := (fun w' => w'.cell? ⟨b, off + k, none⟩ = some (.slice (some ⟨g1, o1, none⟩) q2 cc) ∧ w'.cell? ⟨b, off + j, none⟩ = some (.slice (some ⟨g2, o2, none⟩) q2 cc2) ∧ w'.cell? ⟨g1, o1 + c, none⟩ = some (.int .i64 a) ∧ w'.cell? ⟨g2, o2 + c, none⟩ = some (.int .i64 a2) ∧ Below w.heap.size w w')) (by kernel_rfl) ⟨d, e, x0, y0, hB.drew⟩ (fun hHeld => ?_)
                    obtain ⟨hD_0, hE_0, hX_0, hY_0, hB_0⟩ := id hHeld
                    refine wpAnyH_take (i := 0) (oi := _) (v := ?_) rfl (by kernel_rfl) (by kernel_rfl) (by kernel_rfl) (fun _ _ _ h => h) (Or.inl ⟨by rfl, ?_⟩) (by assumption) ?_
                    (rotate_left); (focus (intro wv hSw; (obtain ⟨qD, qE, qX, qY, qB⟩ := hSw);  go_simp; (try with_reducible rfl)))
                    try simp only [Act.put, List.getElem_toArray, List.getElem_cons_succ, List.getElem_cons_zero, List.setIfInBounds_toArray, List.set_cons_zero, List.set_cons_succ]
                    refine wpAnyH_take (i := 1) (oi := _) (v := ?_) rfl (by kernel_rfl) (by kernel_rfl) (by kernel_rfl) (fun _ _ _ h => h) (Or.inl ⟨by rfl, ?_⟩) (by assumption) ?_
                    (rotate_left); (focus (intro wv hSw; (obtain ⟨qD, qE, qX, qY, qB⟩ := hSw);  go_simp; (try with_reducible rfl)))
                    try simp only [Act.put, List.getElem_toArray, List.getElem_cons_succ, List.getElem_cons_zero, List.setIfInBounds_toArray, List.set_cons_zero, List.set_cons_succ]
                    refine wpAnyH_take (i := 2) (oi := _) (v := ?_) rfl (by kernel_rfl) (by kernel_rfl) (by kernel_rfl) (fun _ _ _ h => h) (Or.inl ⟨by rfl, ?_⟩) (by assumption) ?_
                    (rotate_left); (focus (intro wv hSw; (obtain ⟨qD, qE, qX, qY, qB⟩ := hSw);  go_simp; (try with_reducible rfl)))
                    try simp only [Act.put, List.getElem_toArray, List.getElem_cons_succ, List.getElem_cons_zero, List.setIfInBounds_toArray, List.set_cons_zero, List.set_cons_succ]
                    refine wpAnyH_take (i := 3) (oi := _) (v := ?_) rfl (by kernel_rfl) (by kernel_rfl) (by kernel_rfl) (fun _ _ _ h => h) (Or.inl ⟨by rfl, ?_⟩) (by assumption) ?_
                    (rotate_left); (focus (intro wv hSw; (obtain ⟨qD, qE, qX, qY, qB⟩ := hSw);  go_simp; (try with_reducible rfl)))
                    try simp only [Act.put, List.getElem_toArray, List.getElem_cons_succ, List.getElem_cons_zero, List.setIfInBounds_toArray, List.set_cons_zero, List.set_cons_succ]
                    refine wpAnyH_take (i := 4) (oi := _) (v := ?_) rfl (by kernel_rfl) (by kernel_rfl) (by kernel_rfl) (fun _ _ _ h => h) (Or.inl ⟨by rfl, ?_⟩) (by assumption) ?_
                    (rotate_left); (focus (intro wv hSw; (obtain ⟨qD, qE, qX, qY, qB⟩ := hSw);  go_simp; (try with_reducible rfl)))
                    try simp only [Act.put, List.getElem_toArray, List.getElem_cons_succ, List.getElem_cons_zero, List.setIfInBounds_toArray, List.set_cons_zero, List.set_cons_succ]
                    refine wpAnyH_take (i := 5) (oi := _) (v := ?_) rfl (by kernel_rfl) (by kernel_rfl) (by kernel_rfl) (fun _ _ _ h => h) (Or.inl ⟨by rfl, ?_⟩) (by assumption) ?_
                    (rotate_left); (focus (intro wv hSw; (obtain ⟨qD, qE, qX, qY, qB⟩ := hSw);  go_simp; (try with_reducible rfl)))
                    try simp only [Act.put, List.getElem_toArray, List.getElem_cons_succ, List.getElem_cons_zero, List.setIfInBounds_toArray, List.set_cons_zero, List.set_cons_succ]
                    refine wpAnyH_take (i := 6) (oi := _) (v := ?_) rfl (by kernel_rfl) (by kernel_rfl) (by kernel_rfl) (fun _ _ _ h => h) (Or.inl ⟨by rfl, ?_⟩) (by assumption) ?_
                    (rotate_left); (focus (intro wv hSw; (obtain ⟨qD, qE, qX, qY, qB⟩ := hSw);  go_simp; (try with_reducible rfl)))
                    try simp only [Act.put, List.getElem_toArray, List.getElem_cons_succ, List.getElem_cons_zero, List.setIfInBounds_toArray, List.set_cons_zero, List.set_cons_succ]
                    refine wpAnyH_take (i := 7) (oi := _) (v := ?_) rfl (by kernel_rfl) (by kernel_rfl) (by kernel_rfl) (fun _ _ _ h => h) (Or.inl ⟨by rfl, ?_⟩) (by assumption) ?_
                    (rotate_left); (focus (intro wv hSw; (obtain ⟨qD, qE, qX, qY, qB⟩ := hSw);  go_simp; (try with_reducible rfl)))
                    try simp only [Act.put, List.getElem_toArray, List.getElem_cons_succ, List.getElem_cons_zero, List.setIfInBounds_toArray, List.set_cons_zero, List.set_cons_succ]
                    refine wpAnyH_take (i := 8) (oi := _) (v := ?_) rfl (by kernel_rfl) (by kernel_rfl) (by kernel_rfl) (fun _ _ _ h => h) (Or.inl ⟨by rfl, ?_⟩) (by assumption) ?_
                    (rotate_left); (focus (intro wv hSw; (obtain ⟨qD, qE, qX, qY, qB⟩ := hSw);  go_simp; (try with_reducible rfl)))
                    try simp only [Act.put, List.getElem_toArray, List.getElem_cons_succ, List.getElem_cons_zero, List.setIfInBounds_toArray, List.set_cons_zero, List.set_cons_succ]
                    refine wpAnyH_take (i := 9) (oi := _) (v := ?_) rfl (by kernel_rfl) (by kernel_rfl) (by kernel_rfl) (fun _ _ _ h => h) (Or.inl ⟨by rfl, ?_⟩) (by assumption) ?_
                    (rotate_left); (focus (intro wv hSw; (obtain ⟨qD, qE, qX, qY, qB⟩ := hSw);  go_simp; (try with_reducible rfl)))
                    try simp only [Act.put, List.getElem_toArray, List.getElem_cons_succ, List.getElem_cons_zero, List.setIfInBounds_toArray, List.set_cons_zero, List.set_cons_succ]
                    refine wpAnyH_take (i := 10) (oi := _) (v := ?_) rfl (by kernel_rfl) (by kernel_rfl) (by kernel_rfl) (fun _ _ _ h => h) (Or.inl ⟨by rfl, ?_⟩) (by assumption) ?_
                    (rotate_left); (focus (intro wv hSw; (obtain ⟨qD, qE, qX, qY, qB⟩ := hSw);  go_simp; (try with_reducible rfl)))
                    try simp only [Act.put, List.getElem_toArray, List.getElem_cons_succ, List.getElem_cons_zero, List.setIfInBounds_toArray, List.set_cons_zero, List.set_cons_succ]
                    refine wpAnyH_take (i := 11) (oi := _) (v := ?_) rfl (by kernel_rfl) (by kernel_rfl) (by kernel_rfl) (fun _ _ _ h => h) (Or.inl ⟨by rfl, ?_⟩) (by assumption) ?_
                    (rotate_left); (focus (intro wv hSw; (obtain ⟨qD, qE, qX, qY, qB⟩ := hSw);  go_simp; (try with_reducible rfl)))
                    try simp only [Act.put, List.getElem_toArray, List.getElem_cons_succ, List.getElem_cons_zero, List.setIfInBounds_toArray, List.set_cons_zero, List.set_cons_succ]
                    refine wpAnyH_take (i := 12) (oi := _) (v := ?_) rfl (by kernel_rfl) (by kernel_rfl) (by kernel_rfl) (fun _ _ _ h => h) (Or.inl ⟨by rfl, ?_⟩) (by assumption) ?_
                    (rotate_left); (focus (intro wv hSw; (obtain ⟨qD, qE, qX, qY, qB⟩ := hSw);  go_simp; (try with_reducible rfl)))
                    try simp only [Act.put, List.getElem_toArray, List.getElem_cons_succ, List.getElem_cons_zero, List.setIfInBounds_toArray, List.set_cons_zero, List.set_cons_succ]
                    refine wpAnyH_take (i := 13) (oi := _) (v := ?_) rfl (by kernel_rfl) (by kernel_rfl) (by kernel_rfl) (fun _ _ _ h => h) (Or.inl ⟨by rfl, ?_⟩) (by assumption) ?_
                    (rotate_left); (focus (intro wv hSw; (obtain ⟨qD, qE, qX, qY, qB⟩ := hSw);  go_simp; (try with_reducible rfl)))
                    try simp only [Act.put, List.getElem_toArray, List.getElem_cons_succ, List.getElem_cons_zero, List.setIfInBounds_toArray, List.set_cons_zero, List.set_cons_succ]
                    refine wpAnyH_take (i := 14) (oi := _) (v := ?_) rfl (by kernel_rfl) (by kernel_rfl) (by kernel_rfl) (fun _ _ _ h => h) (Or.inl ⟨by rfl, ?_⟩) (by assumption) ?_
                    (rotate_left); (focus (intro wv hSw; (obtain ⟨qD, qE, qX, qY, qB⟩ := hSw);  go_simp; (try with_reducible rfl)))
                    try simp only [Act.put, List.getElem_toArray, List.getElem_cons_succ, List.getElem_cons_zero, List.setIfInBounds_toArray, List.set_cons_zero, List.set_cons_succ]
                    refine wpAnyH_done (by kernel_rfl) ?_ _
                    have hB := hB_0
                    clear hb1
                    go_wp2_with fail
                    go_roundw
                    case rel => exact ⟨c + 1, u, by go_num, rfl, by omega, HN9, hB⟩
                    case measure => simp [intOf]; omega
                  · have HN9 : Hid (RestK rows (fun y z b => y < k ∨ (y = k ∧ (z < j ∨ (z = j ∧ b < c + 1)))) ((j : Int) - (k : Int))) := Lib.hid (by rw [show min u ((j : Int) - (k : Int)) = (j : Int) - (k : Int) by omega] at hnew; exact hnew)
                    have hb1 : (a == a2) = true := by simp [heq]
                    have hmn2 : (j : Int) - (k : Int) < u := by omega
                    have HEQ := Lib.hid heq
                    clear hnew heq HK HHit HMiss
                    go_wp2_with fail
                    refine wp_region_held_drew (S := (fun w' => w'.cell? ⟨b, off + k, none⟩ = some (.slice (some ⟨g1, o1, none⟩) q2 cc) ∧ w'.cell? ⟨b, off + j, none⟩ = some (.slice (some ⟨g2, o2, none⟩) q2 cc2) ∧ w'.cell? ⟨g1, o1 + c, none⟩ = some (.int .i64 a) ∧ w'.cell? ⟨g2, o2 + c, none⟩ = some (.int .i64 a2) ∧ Below w.heap.size w w')) (by kernel_rfl) ⟨d, e, x0, y0, hB.drew⟩ (fun hHeld => ?_)
                    obtain ⟨hD_0, hE_0, hX_0, hY_0, hB_0⟩ := id hHeld
                    refine wpAnyH_take (i := 0) (oi := _) (v := ?_) rfl (by kernel_rfl) (by kernel_rfl) (by kernel_rfl) (fun _ _ _ h => h) (Or.inl ⟨by rfl, ?_⟩) (by assumption) ?_
                    (rotate_left); (focus (intro wv hSw; (obtain ⟨qD, qE, qX, qY, qB⟩ := hSw);  go_simp; (try with_reducible rfl)))
                    try simp only [Act.put, List.getElem_toArray, List.getElem_cons_succ, List.getElem_cons_zero, List.setIfInBounds_toArray, List.set_cons_zero, List.set_cons_succ]
                    refine wpAnyH_take (i := 1) (oi := _) (v := ?_) rfl (by kernel_rfl) (by kernel_rfl) (by kernel_rfl) (fun _ _ _ h => h) (Or.inl ⟨by rfl, ?_⟩) (by assumption) ?_
                    (rotate_left); (focus (intro wv hSw; (obtain ⟨qD, qE, qX, qY, qB⟩ := hSw);  go_simp; (try with_reducible rfl)))
                    try simp only [Act.put, List.getElem_toArray, List.getElem_cons_succ, List.getElem_cons_zero, List.setIfInBounds_toArray, List.set_cons_zero, List.set_cons_succ]
                    refine wpAnyH_take (i := 2) (oi := _) (v := ?_) rfl (by kernel_rfl) (by kernel_rfl) (by kernel_rfl) (fun _ _ _ h => h) (Or.inl ⟨by rfl, ?_⟩) (by assumption) ?_
                    (rotate_left); (focus (intro wv hSw; (obtain ⟨qD, qE, qX, qY, qB⟩ := hSw);  go_simp; (try with_reducible rfl)))
                    try simp only [Act.put, List.getElem_toArray, List.getElem_cons_succ, List.getElem_cons_zero, List.setIfInBounds_toArray, List.set_cons_zero, List.set_cons_succ]
                    refine wpAnyH_take (i := 3) (oi := _) (v := ?_) rfl (by kernel_rfl) (by kernel_rfl) (by kernel_rfl) (fun _ _ _ h => h) (Or.inl ⟨by rfl, ?_⟩) (by assumption) ?_
                    (rotate_left); (focus (intro wv hSw; (obtain ⟨qD, qE, qX, qY, qB⟩ := hSw);  go_simp; (try with_reducible rfl)))
                    try simp only [Act.put, List.getElem_toArray, List.getElem_cons_succ, List.getElem_cons_zero, List.setIfInBounds_toArray, List.set_cons_zero, List.set_cons_succ]
                    refine wpAnyH_take (i := 4) (oi := _) (v := ?_) rfl (by kernel_rfl) (by kernel_rfl) (by kernel_rfl) (fun _ _ _ h => h) (Or.inl ⟨by rfl, ?_⟩) (by assumption) ?_
                    (rotate_left); (focus (intro wv hSw; (obtain ⟨qD, qE, qX, qY, qB⟩ := hSw);  go_simp; (try with_reducible rfl)))
                    try simp only [Act.put, List.getElem_toArray, List.getElem_cons_succ, List.getElem_cons_zero, List.setIfInBounds_toArray, List.set_cons_zero, List.set_cons_succ]
                    refine wpAnyH_take (i := 5) (oi := _) (v := ?_) rfl (by kernel_rfl) (by kernel_rfl) (by kernel_rfl) (fun _ _ _ h => h) (Or.inl ⟨by rfl, ?_⟩) (by assumption) ?_
                    (rotate_left); (focus (intro wv hSw; (obtain ⟨qD, qE, qX, qY, qB⟩ := hSw);  go_simp; (try with_reducible rfl)))
                    try simp only [Act.put, List.getElem_toArray, List.getElem_cons_succ, List.getElem_cons_zero, List.setIfInBounds_toArray, List.set_cons_zero, List.set_cons_succ]
                    refine wpAnyH_take (i := 6) (oi := _) (v := ?_) rfl (by kernel_rfl) (by kernel_rfl) (by kernel_rfl) (fun _ _ _ h => h) (Or.inl ⟨by rfl, ?_⟩) (by assumption) ?_
                    (rotate_left); (focus (intro wv hSw; (obtain ⟨qD, qE, qX, qY, qB⟩ := hSw);  go_simp; (try with_reducible rfl)))
                    try simp only [Act.put, List.getElem_toArray, List.getElem_cons_succ, List.getElem_cons_zero, List.setIfInBounds_toArray, List.set_cons_zero, List.set_cons_succ]
                    refine wpAnyH_take (i := 7) (oi := _) (v := ?_) rfl (by kernel_rfl) (by kernel_rfl) (by kernel_rfl) (fun _ _ _ h => h) (Or.inl ⟨by rfl, ?_⟩) (by assumption) ?_
                    (rotate_left); (focus (intro wv hSw; (obtain ⟨qD, qE, qX, qY, qB⟩ := hSw);  go_simp; (try with_reducible rfl)))
                    try simp only [Act.put, List.getElem_toArray, List.getElem_cons_succ, List.getElem_cons_zero, List.setIfInBounds_toArray, List.set_cons_zero, List.set_cons_succ]
                    refine wpAnyH_take (i := 8) (oi := _) (v := ?_) rfl (by kernel_rfl) (by kernel_rfl) (by kernel_rfl) (fun _ _ _ h => h) (Or.inl ⟨by rfl, ?_⟩) (by assumption) ?_
                    (rotate_left); (focus (intro wv hSw; (obtain ⟨qD, qE, qX, qY, qB⟩ := hSw);  go_simp; (try with_reducible rfl)))
                    try simp only [Act.put, List.getElem_toArray, List.getElem_cons_succ, List.getElem_cons_zero, List.setIfInBounds_toArray, List.set_cons_zero, List.set_cons_succ]
                    refine wpAnyH_take (i := 9) (oi := _) (v := ?_) rfl (by kernel_rfl) (by kernel_rfl) (by kernel_rfl) (fun _ _ _ h => h) (Or.inl ⟨by rfl, ?_⟩) (by assumption) ?_
                    (rotate_left); (focus (intro wv hSw; (obtain ⟨qD, qE, qX, qY, qB⟩ := hSw);  go_simp; (try with_reducible rfl)))
                    try simp only [Act.put, List.getElem_toArray, List.getElem_cons_succ, List.getElem_cons_zero, List.setIfInBounds_toArray, List.set_cons_zero, List.set_cons_succ]
                    refine wpAnyH_take (i := 10) (oi := _) (v := ?_) rfl (by kernel_rfl) (by kernel_rfl) (by kernel_rfl) (fun _ _ _ h => h) (Or.inl ⟨by rfl, ?_⟩) (by assumption) ?_
                    (rotate_left); (focus (intro wv hSw; (obtain ⟨qD, qE, qX, qY, qB⟩ := hSw);  go_simp; (try with_reducible rfl)))
                    try simp only [Act.put, List.getElem_toArray, List.getElem_cons_succ, List.getElem_cons_zero, List.setIfInBounds_toArray, List.set_cons_zero, List.set_cons_succ]
                    refine wpAnyH_take (i := 11) (oi := _) (v := ?_) rfl (by kernel_rfl) (by kernel_rfl) (by kernel_rfl) (fun _ _ _ h => h) (Or.inl ⟨by rfl, ?_⟩) (by assumption) ?_
                    (rotate_left); (focus (intro wv hSw; (obtain ⟨qD, qE, qX, qY, qB⟩ := hSw);  go_simp; (try with_reducible rfl)))
                    try simp only [Act.put, List.getElem_toArray, List.getElem_cons_succ, List.getElem_cons_zero, List.setIfInBounds_toArray, List.set_cons_zero, List.set_cons_succ]
                    refine wpAnyH_take (i := 12) (oi := _) (v := ?_) rfl (by kernel_rfl) (by kernel_rfl) (by kernel_rfl) (fun _ _ _ h => h) (Or.inl ⟨by rfl, ?_⟩) (by assumption) ?_
                    (rotate_left); (focus (intro wv hSw; (obtain ⟨qD, qE, qX, qY, qB⟩ := hSw);  go_simp; (try with_reducible rfl)))
                    try simp only [Act.put, List.getElem_toArray, List.getElem_cons_succ, List.getElem_cons_zero, List.setIfInBounds_toArray, List.set_cons_zero, List.set_cons_succ]
                    refine wpAnyH_take (i := 13) (oi := _) (v := ?_) rfl (by kernel_rfl) (by kernel_rfl) (by kernel_rfl) (fun _ _ _ h => h) (Or.inl ⟨by rfl, ?_⟩) (by assumption) ?_
                    (rotate_left); (focus (intro wv hSw; (obtain ⟨qD, qE, qX, qY, qB⟩ := hSw);  go_simp; (try with_reducible rfl)))
                    try simp only [Act.put, List.getElem_toArray, List.getElem_cons_succ, List.getElem_cons_zero, List.setIfInBounds_toArray, List.set_cons_zero, List.set_cons_succ]
                    refine wpAnyH_take (i := 14) (oi := _) (v := ?_) rfl (by kernel_rfl) (by kernel_rfl) (by kernel_rfl) (fun _ _ _ h => h) (Or.inl ⟨by rfl, ?_⟩) (by assumption) ?_
                    (rotate_left); (focus (intro wv hSw; (obtain ⟨qD, qE, qX, qY, qB⟩ := hSw);  go_simp; (try with_reducible rfl)))
                    try simp only [Act.put, List.getElem_toArray, List.getElem_cons_succ, List.getElem_cons_zero, List.setIfInBounds_toArray, List.set_cons_zero, List.set_cons_succ]
                    refine wpAnyH_done (by kernel_rfl) ?_ _
                    have hB := hB_0
                    clear hb1
                    go_wp2_with fail
                    go_roundw
                    case rel => exact ⟨c + 1, _, by go_num, rfl, by omega, HN9, hB⟩
                    case measure => simp [intOf]; omega
                · have HN9 : Hid (RestK rows (fun y z b => y < k ∨ (y = k ∧ (z < j ∨ (z = j ∧ b < c + 1)))) u) := Lib.hid (HK.out.same (fun y z b s eh => by
                    by_cases e1 : y = k ∧ z = j ∧ b = c
                    · exact absurd (HMiss.out (by rw [← e1.1, ← e1.2.1, ← e1.2.2]; exact eh)) (fun x => heq x.symm)
                    · rcases s with s | ⟨s0, s | ⟨s1, s2⟩⟩ <;> omega))
                  have hb1 : (a == a2) = false := by simp; exact fun c => heq c.symm
                  have HEQ := Lib.hid heq
                  clear heq HK HHit HMiss
                  go_wp2_with fail
                  refine wp_region_held_drew (S := (fun w' => w'.cell? ⟨b, off + k, none⟩ = some (.slice (some ⟨g1, o1, none⟩) q2 cc) ∧ w'.cell? ⟨b, off + j, none⟩ = some (.slice (some ⟨g2, o2, none⟩) q2 cc2) ∧ w'.cell? ⟨g1, o1 + c, none⟩ = some (.int .i64 a) ∧ w'.cell? ⟨g2, o2 + c, none⟩ = some (.int .i64 a2) ∧ Below w.heap.size w w')) (by kernel_rfl) ⟨d, e, x0, y0, hB.drew⟩ (fun hHeld => ?_)
                  obtain ⟨hD_0, hE_0, hX_0, hY_0, hB_0⟩ := id hHeld
                  refine wpAnyH_take (i := 0) (oi := _) (v := ?_) rfl (by kernel_rfl) (by kernel_rfl) (by kernel_rfl) (fun _ _ _ h => h) (Or.inl ⟨by rfl, ?_⟩) (by assumption) ?_
                  (rotate_left); (focus (intro wv hSw; (obtain ⟨qD, qE, qX, qY, qB⟩ := hSw);  go_simp; (try with_reducible rfl)))
                  try simp only [Act.put, List.getElem_toArray, List.getElem_cons_succ, List.getElem_cons_zero, List.setIfInBounds_toArray, List.set_cons_zero, List.set_cons_succ]
                  refine wpAnyH_take (i := 1) (oi := _) (v := ?_) rfl (by kernel_rfl) (by kernel_rfl) (by kernel_rfl) (fun _ _ _ h => h) (Or.inl ⟨by rfl, ?_⟩) (by assumption) ?_
                  (rotate_left); (focus (intro wv hSw; (obtain ⟨qD, qE, qX, qY, qB⟩ := hSw);  go_simp; (try with_reducible rfl)))
                  try simp only [Act.put, List.getElem_toArray, List.getElem_cons_succ, List.getElem_cons_zero, List.setIfInBounds_toArray, List.set_cons_zero, List.set_cons_succ]
                  refine wpAnyH_take (i := 2) (oi := _) (v := ?_) rfl (by kernel_rfl) (by kernel_rfl) (by kernel_rfl) (fun _ _ _ h => h) (Or.inl ⟨by rfl, ?_⟩) (by assumption) ?_
                  (rotate_left); (focus (intro wv hSw; (obtain ⟨qD, qE, qX, qY, qB⟩ := hSw);  go_simp; (try with_reducible rfl)))
                  try simp only [Act.put, List.getElem_toArray, List.getElem_cons_succ, List.getElem_cons_zero, List.setIfInBounds_toArray, List.set_cons_zero, List.set_cons_succ]
                  refine wpAnyH_take (i := 3) (oi := _) (v := ?_) rfl (by kernel_rfl) (by kernel_rfl) (by kernel_rfl) (fun _ _ _ h => h) (Or.inl ⟨by rfl, ?_⟩) (by assumption) ?_
                  (rotate_left); (focus (intro wv hSw; (obtain ⟨qD, qE, qX, qY, qB⟩ := hSw);  go_simp; (try with_reducible rfl)))
                  try simp only [Act.put, List.getElem_toArray, List.getElem_cons_succ, List.getElem_cons_zero, List.setIfInBounds_toArray, List.set_cons_zero, List.set_cons_succ]
                  refine wpAnyH_take (i := 4) (oi := _) (v := ?_) rfl (by kernel_rfl) (by kernel_rfl) (by kernel_rfl) (fun _ _ _ h => h) (Or.inl ⟨by rfl, ?_⟩) (by assumption) ?_
                  (rotate_left); (focus (intro wv hSw; (obtain ⟨qD, qE, qX, qY, qB⟩ := hSw);  go_simp; (try with_reducible rfl)))
                  try simp only [Act.put, List.getElem_toArray, List.getElem_cons_succ, List.getElem_cons_zero, List.setIfInBounds_toArray, List.set_cons_zero, List.set_cons_succ]
                  refine wpAnyH_take (i := 5) (oi := _) (v := ?_) rfl (by kernel_rfl) (by kernel_rfl) (by kernel_rfl) (fun _ _ _ h => h) (Or.inl ⟨by rfl, ?_⟩) (by assumption) ?_
                  (rotate_left); (focus (intro wv hSw; (obtain ⟨qD, qE, qX, qY, qB⟩ := hSw);  go_simp; (try with_reducible rfl)))
                  try simp only [Act.put, List.getElem_toArray, List.getElem_cons_succ, List.getElem_cons_zero, List.setIfInBounds_toArray, List.set_cons_zero, List.set_cons_succ]
                  refine wpAnyH_take (i := 6) (oi := _) (v := ?_) rfl (by kernel_rfl) (by kernel_rfl) (by kernel_rfl) (fun _ _ _ h => h) (Or.inl ⟨by rfl, ?_⟩) (by assumption) ?_
                  (rotate_left); (focus (intro wv hSw; (obtain ⟨qD, qE, qX, qY, qB⟩ := hSw);  go_simp; (try with_reducible rfl)))
                  try simp only [Act.put, List.getElem_toArray, List.getElem_cons_succ, List.getElem_cons_zero, List.setIfInBounds_toArray, List.set_cons_zero, List.set_cons_succ]
                  refine wpAnyH_take (i := 7) (oi := _) (v := ?_) rfl (by kernel_rfl) (by kernel_rfl) (by kernel_rfl) (fun _ _ _ h => h) (Or.inl ⟨by rfl, ?_⟩) (by assumption) ?_
                  (rotate_left); (focus (intro wv hSw; (obtain ⟨qD, qE, qX, qY, qB⟩ := hSw);  go_simp; (try with_reducible rfl)))
                  try simp only [Act.put, List.getElem_toArray, List.getElem_cons_succ, List.getElem_cons_zero, List.setIfInBounds_toArray, List.set_cons_zero, List.set_cons_succ]
                  refine wpAnyH_take (i := 8) (oi := _) (v := ?_) rfl (by kernel_rfl) (by kernel_rfl) (by kernel_rfl) (fun _ _ _ h => h) (Or.inl ⟨by rfl, ?_⟩) (by assumption) ?_
                  (rotate_left); (focus (intro wv hSw; (obtain ⟨qD, qE, qX, qY, qB⟩ := hSw);  go_simp; (try with_reducible rfl)))
                  try simp only [Act.put, List.getElem_toArray, List.getElem_cons_succ, List.getElem_cons_zero, List.setIfInBounds_toArray, List.set_cons_zero, List.set_cons_succ]
                  refine wpAnyH_take (i := 9) (oi := _) (v := ?_) rfl (by kernel_rfl) (by kernel_rfl) (by kernel_rfl) (fun _ _ _ h => h) (Or.inl ⟨by rfl, ?_⟩) (by assumption) ?_
                  (rotate_left); (focus (intro wv hSw; (obtain ⟨qD, qE, qX, qY, qB⟩ := hSw);  go_simp; (try with_reducible rfl)))
                  try simp only [Act.put, List.getElem_toArray, List.getElem_cons_succ, List.getElem_cons_zero, List.setIfInBounds_toArray, List.set_cons_zero, List.set_cons_succ]
                  refine wpAnyH_take (i := 10) (oi := _) (v := ?_) rfl (by kernel_rfl) (by kernel_rfl) (by kernel_rfl) (fun _ _ _ h => h) (Or.inl ⟨by rfl, ?_⟩) (by assumption) ?_
                  (rotate_left); (focus (intro wv hSw; (obtain ⟨qD, qE, qX, qY, qB⟩ := hSw);  go_simp; (try with_reducible rfl)))
                  try simp only [Act.put, List.getElem_toArray, List.getElem_cons_succ, List.getElem_cons_zero, List.setIfInBounds_toArray, List.set_cons_zero, List.set_cons_succ]
                  refine wpAnyH_take (i := 11) (oi := _) (v := ?_) rfl (by kernel_rfl) (by kernel_rfl) (by kernel_rfl) (fun _ _ _ h => h) (Or.inl ⟨by rfl, ?_⟩) (by assumption) ?_
                  (rotate_left); (focus (intro wv hSw; (obtain ⟨qD, qE, qX, qY, qB⟩ := hSw);  go_simp; (try with_reducible rfl)))
                  try simp only [Act.put, List.getElem_toArray, List.getElem_cons_succ, List.getElem_cons_zero, List.setIfInBounds_toArray, List.set_cons_zero, List.set_cons_succ]
                  refine wpAnyH_take (i := 12) (oi := _) (v := ?_) rfl (by kernel_rfl) (by kernel_rfl) (by kernel_rfl) (fun _ _ _ h => h) (Or.inl ⟨by rfl, ?_⟩) (by assumption) ?_
                  (rotate_left); (focus (intro wv hSw; (obtain ⟨qD, qE, qX, qY, qB⟩ := hSw);  go_simp; (try with_reducible rfl)))
                  try simp only [Act.put, List.getElem_toArray, List.getElem_cons_succ, List.getElem_cons_zero, List.setIfInBounds_toArray, List.set_cons_zero, List.set_cons_succ]
                  refine wpAnyH_take (i := 13) (oi := _) (v := ?_) rfl (by kernel_rfl) (by kernel_rfl) (by kernel_rfl) (fun _ _ _ h => h) (Or.inl ⟨by rfl, ?_⟩) (by assumption) ?_
                  (rotate_left); (focus (intro wv hSw; (obtain ⟨qD, qE, qX, qY, qB⟩ := hSw);  go_simp; (try with_reducible rfl)))
                  try simp only [Act.put, List.getElem_toArray, List.getElem_cons_succ, List.getElem_cons_zero, List.setIfInBounds_toArray, List.set_cons_zero, List.set_cons_succ]
                  refine wpAnyH_take (i := 14) (oi := _) (v := ?_) rfl (by kernel_rfl) (by kernel_rfl) (by kernel_rfl) (fun _ _ _ h => h) (Or.inl ⟨by rfl, ?_⟩) (by assumption) ?_
                  (rotate_left); (focus (intro wv hSw; (obtain ⟨qD, qE, qX, qY, qB⟩ := hSw);  go_simp; (try with_reducible rfl)))
                  try simp only [Act.put, List.getElem_toArray, List.getElem_cons_succ, List.getElem_cons_zero, List.setIfInBounds_toArray, List.set_cons_zero, List.set_cons_succ]
                  refine wpAnyH_done (by kernel_rfl) ?_ _
                  have hB := hB_0
                  clear hb1
                  go_wp2_with fail
                  go_roundw
                  case rel => exact ⟨c + 1, u, by go_num, rfl, by omega, HN9, hB⟩
                  case measure => simp [intOf]; omega
              · have hci : ¬ (c : Int) < (q2 : Int) := by omega
                have HN9 : Hid (RestK rows (fun y z b => y < k ∨ (y = k ∧ z < j + 1)) u) := Lib.hid (HK.out.same (fun y z b s e => by
                have hb9 := e.2.2.1
                by_cases e1 : y = k ∧ z = j
                · rw [e1.1, rwK_at hk, HQ.out] at hb9; omega
                · rcases s with s | ⟨s0, s⟩ <;> omega))
                clear HK
                go_wp2_with fail
                go_roundw
                case rel => exact ⟨j + 1, u, by go_num, rfl, by omega, by omega, HN9, hB⟩
                case measure => simp [intOf]; omega
          · have hji : ¬ (j : Int) < (n : Int) := by omega
            have HN9 : Hid (RestK rows (fun y z b => y < k + 1) u) := Lib.hid (HK.out.same (fun y z b s e => by have h1 := e.1; have h2 := e.2.1; rw [HN.out] at h2; omega))
            clear HK
            go_wp2_with fail
            go_roundw
            case rel => exact ⟨k + 1, u, by go_num, rfl, by omega, HN9, hB⟩
            case measure => simp [intOf]; omega
      · have hki : ¬ (k : Int) < (n : Int) := by omega
        have HU : Hid (u = r) := Lib.hid (RestIs.unique (HK.out.done (fun y z b e => by have h1 := e.1; have h2 := e.2.1; rw [HN.out] at h2; omega)) HRS.out)
        clear HK
        go_wp2_with fail
        go_ret
        exact ⟨ret_int HU.out, hB⟩
end Go.Proofs.Ytoklehmoeollfaa
