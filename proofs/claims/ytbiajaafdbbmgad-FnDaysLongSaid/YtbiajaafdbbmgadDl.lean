/- Contracts of chapter 3: the days that are long. -/
import Derived.Test.YtbiajaafdbbmgadIl
import Derived.Test.YtbiajaafdbbmgadSn
import Derived.Test.YtbiajaafdbbmgadSi
namespace Go.Proofs.Ytbiajaafdbbmgad
open Go.ChangeShapes Go.WideShapes Go.ChangeAt Go.RowKit
set_option linter.unusedSimpArgs false
set_option linter.unusedVariables false

def daysP (l least d : Int) : Bool := decide (least ≤ dayI l (tiltI d))
/-- The days up to n that have it. -/
def fil (p : Int → Bool) : Nat → List Int
  | 0 => []
  | n + 1 => if p ((n : Int) + 1) = true then fil p n ++ [(n : Int) + 1] else fil p n
theorem fil_len (p : Int → Bool) (n : Nat) : (fil p n).length ≤ n := by
  induction n with
  | zero => simp [fil]
  | succ n ih =>
    simp only [fil]; split
    · simp; omega
    · omega
theorem fil_yes {p : Int → Bool} {n : Nat} (h : p ((n : Int) + 1) = true) : fil p (n + 1) = fil p n ++ [(n : Int) + 1] := by simp only [fil]; rw [if_pos h]
theorem fil_no {p : Int → Bool} {n : Nat} (h : p ((n : Int) + 1) = false) : fil p (n + 1) = fil p n := by simp only [fil]; rw [if_neg (by rw [h]; simp)]
def latB (l : Int) : Bool := decide (-90 ≤ l ∧ l ≤ 90)
theorem lat_sky {l t : Int} (h0 : -23 ≤ t) (h1 : t ≤ 23) : skyB l t = latB l := by unfold skyB latB; rw [Bool.eq_iff_iff]; simp; omega
def daysL (l least : Int) : List Int := if latB l = true then fil (daysP l least) 365 else []
theorem daysL_len (l least : Int) : (daysL l least).length ≤ 365 := by
  unfold daysL; split
  · exact fil_len _ _
  · simp
def longL (l : Int) (n : Nat) : List Int := (List.range n).map (fun i : Nat => dayI l ((i : Int) - 23))
theorem longL_len (l : Int) (n : Nat) : (longL l n).length = n := by simp [longL]
theorem longL_at (l : Int) (n i : Nat) (h : i < (longL l n).length) : (longL l n)[i] = dayI l ((i : Int) - 23) := by simp [longL]
theorem longL_next (l : Int) (n : Nat) : longL l n ++ [dayI l ((n : Int) - 23)] = longL l (n + 1) := by simp [longL, List.range_succ]
def DaysRet (l least : Int) (w : World) (e : Ending) (w' : World) : Prop := ∃ A cap, e = .returned (.slice A (daysL l least).length cap) ∧ OwnI w' w.heap.size A cap (daysL l least) ∧ Below w.heap.size w w'
set_option maxRecDepth 100000 in
set_option maxHeartbeats 8000000 in
theorem iDays_any (l least : Int) (w : World) : Calls Try.prog 17 #[.int .i64 l, .int .i64 least] w (DaysRet l least w) := by
  cases hl : latB l
  · have hs : skyB l 0 = false := by rw [lat_sky (by omega) (by omega)]; exact hl
    have hd : daysL l least = [] := by unfold daysL; rw [hl]; rfl
    have HD := Lib.hid hd
    clear hl hd
    go_enter Try.func17, Try.ntmps17
    go_wp2_with fail
    refine (iSky_is _ hs).mono ?_; rintro e w1 ⟨rfl, rfl⟩
    go_wp2
    go_ret
    exact ⟨none, 0, by rw [HD.out]; rfl, by rw [HD.out]; exact OwnI.nil _ _, Below.refl _ _⟩
  · have hs : skyB l 0 = true := by rw [lat_sky (by omega) (by omega)]; exact hl
    have hd : daysL l least = fil (daysP l least) 365 := by unfold daysL; rw [hl]; rfl
    have HD := Lib.hid hd
    clear hl hd
    obtain ⟨i0, hi0, hz0, hz1, hz2⟩ := info_parts infoI
    have HI := Lib.hid (And.intro hi0 (And.intro hz0 (And.intro hz1 hz2)))
    clear hi0 hz0 hz1 hz2
    go_enter Try.func17, Try.ntmps17
    go_wp2_with fail
    refine (iSky_is _ hs).mono ?_; rintro e w1 ⟨rfl, rfl⟩
    go_upto_block 0 with fail
    go_cut [6] from 12 to 21 (fun _ wx => IBlk wx w.heap.size 51 (fillTo (fun j => dayI l ((j : Int) - 23)) 47 47) ∧ Below w.heap.size w wx)
    case first =>
      go_wp2_with fail
      go_loopw [6, 12] (fun _ i wr => ∃ k : Nat, k ≤ 47 ∧ i = .int .i64 k ∧ IBlk wr w.heap.size 51 (fillTo (fun j => dayI l ((j : Int) - 23)) 47 k) ∧ Below w.heap.size w wr) (fun _ i _ => (47 - intOf i).toNat)
      case atStart => exact ⟨0, by omega, rfl, by rw [fillTo_zero]; exact blk_new w _, bel1 _ _⟩
      case round =>
        obtain ⟨k, k1, rfl, hblk, hB⟩ := hrel
        by_cases hlt : k < 47
        · have hi1 : (k : Int) < 47 := by omega
          go_wp2_with fail
          refine (iDayLong_any _ _ _).mono ?_; rintro e w2 ⟨rfl, hw2⟩
          have hblk2 := hblk.next hw2
          have c0 := hblk2.cell k (by rw [fillTo_len _ (by omega)]; exact hlt)
          have f0 := hblk2.frozen k
          go_wp2_with fail
          go_roundw
          case rel => exact ⟨k + 1, by omega, by go_num, by have := hblk2.set k (dayI l ((k : Int) - 23)); rwa [fillTo_next _ hlt] at this, store1_bel (bel_next hB hw2) (Nat.le_refl _) _ _⟩
          case measure => simp [intOf]; omega
        · obtain rfl : k = 47 := by omega
          go_wp2_with fail
          go_meet
          exact ⟨hblk, hB⟩
    case rest =>
      obtain ⟨hblk, hB⟩ := hcut
      go_wp2_with fail
      go_loopw [7, 8] (fun v d wx => ∃ (n : Nat) (A : Option Addr) (cap : Nat), n ≤ 365 ∧ d = .int .i64 ((n : Int) + 1) ∧ v = .slice A (fil (daysP l least) n).length cap ∧ OwnI wx (w.heap.size + 1) A cap (fil (daysP l least) n) ∧ IBlk wx w.heap.size 51 (fillTo (fun j => dayI l ((j : Int) - 23)) 47 47) ∧ Below w.heap.size w wx) (fun _ d _ => (366 - intOf d).toNat)
      case atStart => exact ⟨0, none, 0, by omega, rfl, rfl, OwnI.nil _ _, hblk, hB⟩
      case round =>
        clear hblk hB
        obtain ⟨n, A, cap, n1, rfl, rfl, hO, hblk, hB⟩ := hrel
        have hlen := fil_len (daysP l least) n
        have hcp := hblk.lt
        by_cases hlt : n < 365
        · have ht := tilt_bd ((n : Int) + 1)
          have c0 := hblk.cell (tiltI ((n : Int) + 1) + 23).toNat (by rw [fillTo_len _ (by omega)]; omega)
          rw [fillTo_at _ (by omega), show (((tiltI ((n : Int) + 1) + 23).toNat : Nat) : Int) - 23 = tiltI ((n : Int) + 1) by omega] at c0
          have hdb := day_bd l (tiltI ((n : Int) + 1))
          cases hp : daysP l least ((n : Int) + 1)
          · have hq : ¬ least ≤ dayI l (tiltI ((n : Int) + 1)) := by unfold daysP at hp; simpa using hp
            have HF := Lib.hid (fil_no hp)
            clear hp
            go_wp2_with fail
            refine (iTilt_any _ _).mono ?_; rintro e w2 ⟨rfl, rfl⟩
            go_wp2_with fail
            go_roundw
            case rel => exact ⟨n + 1, A, cap, by omega, by go_num, by rw [HF.out], by rw [HF.out]; exact hO, hblk, hB⟩
            case measure => simp [intOf]; omega
          · have hq : least ≤ dayI l (tiltI ((n : Int) + 1)) := by unfold daysP at hp; simpa using hp
            have HF := Lib.hid (fil_yes hp)
            clear hp
            obtain ⟨m, hm⟩ : ∃ m, (fil (daysP l least) n).length = m := ⟨_, rfl⟩
            have HM := Lib.hid hm
            rw [hm] at hlen ⊢
            clear hm
            go_wp2_with fail
            refine (iTilt_any _ _).mono ?_; rintro e w2 ⟨rfl, rfl⟩
            go_wp2_with (at_builtin; refine wpList_append_lies _ rfl (.tmp 33) (.tmp 35) _ rfl (w.heap.size + 1) 3 i0 _ 1 8 Try.underlying29 HI.out.1 HI.out.2.1 HI.out.2.2.1 HI.out.2.2.2 rfl (by omega) (.slice A m cap) m (ints (fil (daysP l least) n)) rfl (by have := hO.alloc (.cells #[.int .i64 ((n : Int) + 1)] 3); unfold OwnI at this; rwa [HM.out] at this) ⟨wr.heap.size, 0, none⟩ 1 1 [.int .i64 ((n : Int) + 1)] rfl rfl (new_one wr _) (one_cell _) (by omega) (by simp only [maxLen]; omega) (by omega) (by have h1 := hcp; simp; omega) _ rfl ?_; intro g5 cap5 w5 hown5 hgr5 hat5 hlt5)
            go_roundw
            case rel =>
              have hsn := OwnI.snoc (xs := fil (daysP l least) n) (x := (n : Int) + 1) (by rw [HM.out]; exact hown5)
              have hB5 : Below w.heap.size w w5 := by
                refine (hB.alloc hB.size _).grown hgr5 (hB.alloc hB.size _).size (fun j hj => ?_)
                rcases hO.form with ⟨rfl, _⟩ | ⟨g, rfl, hb, _⟩
                · simp [Value.ownBlock] at hj
                · simp [Value.ownBlock] at hj; omega
              have hblk5 : IBlk w5 w.heap.size 51 (fillTo (fun j => dayI l ((j : Int) - 23)) 47 47) := by
                refine IBlk.grown (blk_old hblk _) hgr5 (fun k hk => ?_)
                rcases hO.form with ⟨rfl, _⟩ | ⟨g, rfl, hb, _⟩
                · simp [Value.ownBlock] at hk
                · simp [Value.ownBlock] at hk; omega
              exact ⟨n + 1, some ⟨g5, 0, none⟩, cap5, by omega, by go_num, by rw [HF.out]; simp [HM.out], by rw [HF.out]; exact hsn, hblk5, hB5⟩
            case measure => simp [intOf]; omega
        · have hn : n = 365 := by omega
          have HN := Lib.hid hn
          have hi : ¬ ((n : Int) + 1 ≤ 365) := by omega
          clear hn hlt
          go_wp2_with fail
          go_ret
          have := HN.out
          subst this
          exact ⟨A, cap, by rw [HD.out]; rfl, by rw [HD.out]; exact hO.mono (by omega), hB⟩
set_option maxRecDepth 100000 in
set_option maxHeartbeats 8000000 in
theorem sDays_any (l least : Int) (w : World) : Calls Try.prog 19 #[.int .i64 l, .int .i64 least] w (DaysRet l least w) := by
  obtain ⟨i0, hi0, hz0, hz1, hz2⟩ := info_parts infoI
  have HI := Lib.hid (And.intro hi0 (And.intro hz0 (And.intro hz1 hz2)))
  clear hi0 hz0 hz1 hz2
  go_enter Try.func19, Try.ntmps19
  go_upto_block 0 with fail
  go_cut [6, 7] from 11 to 20 (fun s6 _ wx => ∃ A cap, s6 = .slice A 47 cap ∧ OwnI wx (w.heap.size + 1) A cap (longL l 47) ∧ wx.heap[w.heap.size]? = some (.cells #[] 3 (0, 0)) ∧ Below w.heap.size w wx)
  case first =>
    go_wp2_with fail
    go_loopw [6, 7] (fun v i wr => ∃ (k : Nat) (A : Option Addr) (cap : Nat), k ≤ 47 ∧ i = .int .i64 (-23 + (k : Int)) ∧ v = .slice A k cap ∧ OwnI wr (w.heap.size + 1) A cap (longL l k) ∧ wr.heap[w.heap.size]? = some (.cells #[] 3 (0, 0)) ∧ Below w.heap.size w wr) (fun _ i _ => (24 - intOf i).toNat)
    case atStart => exact ⟨0, _, 0, by omega, rfl, rfl, OwnI.empty (new2 w _ _) (Nat.le_refl _), blk_old (blk_new w _) _, bel2 _ _ _⟩
    case round =>
      obtain ⟨k, A, cap, k1, rfl, rfl, hO, hE, hB⟩ := hrel
      by_cases hlt : k < 47
      · go_wp2_with fail
        refine (sDayLong_any _ _ _).mono ?_; rintro e w2 ⟨rfl, hw2⟩
        have hO2 := hO.next hw2
        have hE2 := blk_next hE hw2
        have hB2 := bel_next hB hw2
        have hcp := blk_lt hE2
        rw [show (-23 + (k : Int)) = (k : Int) - 23 by omega]
        go_wp2_with (at_builtin; refine wpList_append_lies _ rfl (.tmp 15) (.tmp 19) _ rfl (w.heap.size + 1) 3 i0 _ 1 8 Try.underlying29 HI.out.1 HI.out.2.1 HI.out.2.2.1 HI.out.2.2.2 rfl (by omega) (.slice A k cap) k (ints (longL l k)) rfl (by have := hO2.alloc (.cells #[.int .i64 (dayI l ((k : Int) - 23))] 3); unfold OwnI at this; rwa [longL_len] at this) ⟨w2.heap.size, 0, none⟩ 1 1 [.int .i64 (dayI l ((k : Int) - 23))] rfl rfl (new_one w2 _) (one_cell _) (by omega) (by simp only [maxLen]; omega) (by omega) (by have h1 := hcp; simp; omega) _ rfl ?_; intro g5 cap5 w5 hown5 hgr5 hat5 hlt5)
        go_roundw
        case rel =>
          have hsn := OwnI.snoc (xs := longL l k) (x := dayI l ((k : Int) - 23)) (by rw [longL_len]; exact hown5)
          rw [longL_next] at hsn
          have hB5 : Below w.heap.size w w5 := by
            refine (hB2.alloc hB2.size _).grown hgr5 (hB2.alloc hB2.size _).size (fun j hj => ?_)
            rcases hO.form with ⟨rfl, _⟩ | ⟨g, rfl, hb, _⟩
            · simp [Value.ownBlock] at hj
            · simp [Value.ownBlock] at hj; omega
          have hE5 : w5.heap[w.heap.size]? = some (.cells #[] 3 (0, 0)) := by
            rw [hgr5.block w.heap.size (by simp; omega) (fun e => ?_)]
            · exact blk_old hE2 _
            · rcases hO.form with ⟨rfl, _⟩ | ⟨g, rfl, hb, _⟩
              · simp [Value.ownBlock] at e
              · simp [Value.ownBlock] at e; omega
          exact ⟨k + 1, some ⟨g5, 0, none⟩, cap5, by omega, by go_num, rfl, hsn, hE5, hB5⟩
        case measure => simp [intOf]; omega
      · have hk : k = 47 := by omega
        have HK := Lib.hid hk
        have hi : ¬ (-23 + (k : Int) ≤ 23) := by omega
        clear hk hlt
        go_wp2_with fail
        go_meet
        have := HK.out
        subst this
        exact ⟨A, cap, rfl, hO, hE, hB⟩
  case rest =>
    obtain ⟨A, cap, rfl, hL, hE, hB⟩ := hcut
    obtain ⟨gl, rfl, hgl, hgl1⟩ : ∃ g, A = some ⟨g, 0, none⟩ ∧ w.heap.size + 1 ≤ g ∧ g < wc.heap.size := by
      rcases hL.form with ⟨_, h, _⟩ | h
      · have := congrArg List.length h; rw [longL_len] at this; simp at this
      · exact h
    cases hl : latB l
    · have hs : skyB l 0 = false := by rw [lat_sky (by omega) (by omega)]; exact hl
      have hd : daysL l least = [] := by unfold daysL; rw [hl]; rfl
      have HD := Lib.hid hd
      clear hl hd
      go_wp2_with fail
      go_loopw [5, 8] (fun v d wx => v = .slice (some ⟨w.heap.size, 0, none⟩) 0 0 ∧ d = .int .i64 1 ∧ wc = wx) (fun _ _ _ => 0)
      case atStart => exact ⟨rfl, rfl, rfl⟩
      case round =>
        obtain ⟨rfl, rfl, rfl⟩ := hrel
        go_wp2_with fail
        refine (sSky_is _ hs).mono ?_; rintro e w1 ⟨rfl, rfl⟩
        go_wp2
        go_ret
        exact ⟨_, 0, by rw [HD.out]; rfl, by rw [HD.out]; exact OwnI.empty hE (Nat.le_refl _), hB⟩
    · have hs : skyB l 0 = true := by rw [lat_sky (by omega) (by omega)]; exact hl
      have hd : daysL l least = fil (daysP l least) 365 := by unfold daysL; rw [hl]; rfl
      have HD := Lib.hid hd
      clear hl hd
      go_wp2_with fail
      go_loopw [5, 8] (fun v d wx => ∃ (n : Nat) (A : Option Addr) (co : Nat), n ≤ 365 ∧ d = .int .i64 ((n : Int) + 1) ∧ v = .slice A (fil (daysP l least) n).length co ∧ OwnI wx w.heap.size A co (fil (daysP l least) n) ∧ (∀ g, A = some ⟨g, 0, none⟩ → g ≠ gl) ∧ OwnI wx (w.heap.size + 1) (some ⟨gl, 0, none⟩) cap (longL l 47) ∧ Below w.heap.size w wx) (fun _ d _ => (366 - intOf d).toNat)
      case atStart => exact ⟨0, _, 0, by omega, rfl, rfl, OwnI.empty hE (Nat.le_refl _), fun g h => by simp at h; omega, hL, hB⟩
      case round =>
        clear hL hE hB hgl1
        obtain ⟨n, A, co, n1, rfl, rfl, hO, hne, hL, hB⟩ := hrel
        have hlen := fil_len (daysP l least) n
        have hcp := hB.size
        have hgl2 : gl < wr.heap.size := by
          rcases hL.form with ⟨h, _⟩ | ⟨g, h, _, h2⟩
          · cases h
          · simp at h; omega
        by_cases hlt : n < 365
        · have ht := tilt_bd ((n : Int) + 1)
          have c0 := hL.cell (tiltI ((n : Int) + 1) + 23).toNat (by rw [longL_len]; omega)
          rw [longL_at, show (((tiltI ((n : Int) + 1) + 23).toNat : Nat) : Int) - 23 = tiltI ((n : Int) + 1) by omega] at c0
          have hdb := day_bd l (tiltI ((n : Int) + 1))
          cases hp : daysP l least ((n : Int) + 1)
          · have hq : ¬ least ≤ dayI l (tiltI ((n : Int) + 1)) := by unfold daysP at hp; simpa using hp
            have HF := Lib.hid (fil_no hp)
            clear hp
            go_wp2_with fail
            refine (sSky_is _ hs).mono ?_; rintro e w1 ⟨rfl, rfl⟩
            go_wp2_with fail
            refine (sTilt_any _ _).mono ?_; rintro e w2 ⟨rfl, rfl⟩
            go_wp2_with fail
            go_roundw
            case rel => exact ⟨n + 1, A, co, by omega, by go_num, by rw [HF.out], by rw [HF.out]; exact hO, hne, hL, hB⟩
            case measure => simp [intOf]; omega
          · have hq : least ≤ dayI l (tiltI ((n : Int) + 1)) := by unfold daysP at hp; simpa using hp
            have HF := Lib.hid (fil_yes hp)
            clear hp
            obtain ⟨m, hm⟩ : ∃ m, (fil (daysP l least) n).length = m := ⟨_, rfl⟩
            have HM := Lib.hid hm
            rw [hm] at hlen ⊢
            clear hm
            go_wp2_with fail
            refine (sSky_is _ hs).mono ?_; rintro e w1 ⟨rfl, rfl⟩
            go_wp2_with fail
            refine (sTilt_any _ _).mono ?_; rintro e w2 ⟨rfl, rfl⟩
            go_wp2_with (at_builtin; refine wpList_append_lies _ rfl (.tmp 37) (.tmp 39) _ rfl w.heap.size 3 i0 _ 1 8 Try.underlying29 HI.out.1 HI.out.2.1 HI.out.2.2.1 HI.out.2.2.2 rfl (by omega) (.slice A m co) m (ints (fil (daysP l least) n)) rfl (by have := hO.alloc (.cells #[.int .i64 ((n : Int) + 1)] 3); unfold OwnI at this; rwa [HM.out] at this) ⟨wr.heap.size, 0, none⟩ 1 1 [.int .i64 ((n : Int) + 1)] rfl rfl (new_one wr _) (one_cell _) (by omega) (by simp only [maxLen]; omega) (by omega) (by have h1 := hcp; simp; omega) _ rfl ?_; intro g5 cap5 w5 hown5 hgr5 hat5 hlt5)
            go_roundw
            case rel =>
              have hsn := OwnI.snoc (xs := fil (daysP l least) n) (x := (n : Int) + 1) (by rw [HM.out]; exact hown5)
              have hB5 : Below w.heap.size w w5 := by
                refine (hB.alloc hB.size _).grown hgr5 (hB.alloc hB.size _).size (fun j hj => ?_)
                rcases hO.form with ⟨rfl, _⟩ | ⟨g, rfl, hb, _⟩
                · simp [Value.ownBlock] at hj
                · simp [Value.ownBlock] at hj; omega
              have hne5 : g5 ≠ gl := by
                rcases hat5 with h | h
                · rcases hO.form with ⟨rfl, _⟩ | ⟨g, rfl, hb, _⟩
                  · simp [Value.ownBlock] at h
                  · simp [Value.ownBlock] at h; have := hne g rfl; omega
                · have : g5 = wr.heap.size + 1 := by simpa using h
                  omega
              have hL5 : OwnI w5 (w.heap.size + 1) (some ⟨gl, 0, none⟩) cap (longL l 47) := by
                refine OwnI.grown_far (hL.alloc _) hgr5 (fun g h e => ?_)
                rcases hO.form with ⟨rfl, _⟩ | ⟨g', rfl, hb, _⟩
                · simp [Value.ownBlock] at e
                · simp [Value.ownBlock] at e h; have := hne g' rfl; omega
              exact ⟨n + 1, some ⟨g5, 0, none⟩, cap5, by omega, by go_num, by rw [HF.out]; simp [HM.out], by rw [HF.out]; exact hsn, fun g h => by simp at h; omega, hL5, hB5⟩
            case measure => simp [intOf]; omega
        · have hn : n = 365 := by omega
          have HN := Lib.hid hn
          have hi : ¬ ((n : Int) + 1 ≤ 365) := by omega
          clear hn hlt
          go_wp2_with fail
          go_ret
          have := HN.out
          subst this
          exact ⟨A, co, by rw [HD.out]; rfl, by rw [HD.out]; exact hO, hB⟩
end Go.Proofs.Ytbiajaafdbbmgad
