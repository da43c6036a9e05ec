import Derived.Test.YtjbekgjdempbiaaGreatDoorJValid
/-
  The code: mayIssue, Issue.
-/
namespace Go.Proofs
open Go.RowKit Go.Sort Go.Lib Go.Shelf Go.Maps

/-- the number of the error that Issue says; 0: none. -/
def mayE (lv pv : Bool) (ttl most : Int) (nl : Nat) (tm : Int) : Int :=
  if lv = false then 1 else if pv = false then 2 else if ttl = 0 ∨ most < ttl then 3 else if 14 ≤ nl then 4 else if tm = 18446744073709551615 then 3 else 0
def Tryz.errV (k : Int) : Value := if k = 0 then .nilIface else .iface 33 (.int .i64 k)
theorem Tryz.errV_nz {k : Int} (h : k ≠ 0) : Tryz.errV k = .iface 33 (.int .i64 k) := if_neg h

set_option maxRecDepth 100000 in
set_option maxHeartbeats 2000000 in
theorem Tryz.mayIssue (vb mt ml : Nat) (vx : VX) (tm tn ln : Int) (tks : List TokE) (lks : List LeaE) (w : World) (hV : Tryz.VaultAt w vb mt ml vx tm tn ln tks lks) (x : Int × Int) (lv : Bool) (pth : List UInt8) (hpl : pth.length ≤ 1000000) (ttl most : Int)
    (hF : ∀ W, Below w.heap.size w W → Calls Tryz.prog 83 #[.pointer (some ⟨vb, 0, none⟩), nmV x] W fun e w' => e = .returned (.bool lv) ∧ Below W.heap.size W w') :
    Calls Tryz.prog 64 #[.pointer (some ⟨vb, 0, none⟩), nmV x, .string ⟨pth.toArray⟩, .int .u64 ttl, .int .u64 most] w fun e w' => e = .returned (Tryz.errV (mayE lv (pathI pth) ttl most lks.length tm)) ∧ Below w.heap.size w w' := by
  have hb0 : Below w.heap.size w (w.alloc (.cells #[.int .i64 x.1, .int .u64 x.2] 114)) := (Below.refl _ w).alloc (Nat.le_refl _) _
  have hF1 := hF _ hb0
  have hVal := fun W => Tryz.valid pth W hpl
  have hlen := fun W (hb : Below w.heap.size w W) => (hV.below hb).lenL
  have hcell := fun W (hb : Below w.heap.size w W) => (hV.below hb).v.cell 4 (v := .map (some ml)) rfl
  have htime := fun W (hb : Below w.heap.size w W) => (hV.below hb).v.cell 2 (v := .int .u64 tm) rfl
  have hr : Hid (mayE lv (pathI pth) ttl most lks.length tm = if lv = false then 1 else if pathI pth = false then 2 else if ttl = 0 ∨ most < ttl then 3 else if 14 ≤ lks.length then 4 else if tm = 18446744073709551615 then 3 else 0) := hid_intro rfl
  generalize mayE lv (pathI pth) ttl most lks.length tm = r at *
  generalize pathI pth = pv at *
  unfold nmV at hF1 ⊢
  clear hF
  cases lv
  · obtain rfl : r = 1 := by rw [hid_elim hr]; rfl
    rw [Tryz.errV_nz (by decide)]
    clear hr
    go_enter Tryz.func64, Tryz.ntmps64
    go_wp2_with (go_at_call 83; refine hF1.mono ?_; rintro e w1 ⟨rfl, hb1⟩)
    go_ret
    exact ⟨rfl, hb0.trans (hb1.mono (by simp))⟩
  · cases pv
    · obtain rfl : r = 2 := by rw [hid_elim hr]; rfl
      rw [Tryz.errV_nz (by decide)]
      clear hr
      go_enter Tryz.func64, Tryz.ntmps64
      go_wp2_with (first
        | (go_at_call 83; refine hF1.mono ?_; rintro e w1 ⟨rfl, hb1⟩)
        | (go_at_call 92; refine (hVal _).mono ?_; rintro e w2 ⟨rfl, hb2⟩))
      go_ret
      exact ⟨rfl, (hb0.trans (hb1.mono (by simp))).trans (hb2.mono (by have := hb1.size; simp at this; omega))⟩
    · by_cases h3 : ttl = 0 ∨ most < ttl
      · obtain rfl : r = 3 := by rw [hid_elim hr, if_neg (by simp), if_neg (by simp), if_pos h3]
        rw [Tryz.errV_nz (by decide)]
        clear hr
        by_cases h0 : ttl = 0
        · subst h0
          clear h3
          go_enter Tryz.func64, Tryz.ntmps64
          go_wp2_with (first
            | (go_at_call 83; refine hF1.mono ?_; rintro e w1 ⟨rfl, hb1⟩)
            | (go_at_call 92; refine (hVal _).mono ?_; rintro e w2 ⟨rfl, hb2⟩))
          go_ret
          exact ⟨rfl, (hb0.trans (hb1.mono (by simp))).trans (hb2.mono (by have := hb1.size; simp at this; omega))⟩
        · have h0' : (ttl == 0) = false := by simpa using h0
          have h3' : most < ttl := h3.resolve_left h0
          clear h3 h0
          go_enter Tryz.func64, Tryz.ntmps64
          go_wp2_with (first
            | (go_at_call 83; refine hF1.mono ?_; rintro e w1 ⟨rfl, hb1⟩)
            | (go_at_call 92; refine (hVal _).mono ?_; rintro e w2 ⟨rfl, hb2⟩))
          go_ret
          exact ⟨rfl, (hb0.trans (hb1.mono (by simp))).trans (hb2.mono (by have := hb1.size; simp at this; omega))⟩
      · have h0' : (ttl == 0) = false := by simp; omega
        have h3' : ¬ most < ttl := by omega
        by_cases h4 : 14 ≤ lks.length
        · obtain rfl : r = 4 := by rw [hid_elim hr, if_neg (by simp), if_neg (by simp), if_neg h3, if_pos h4]
          rw [Tryz.errV_nz (by decide)]
          clear hr h3
          go_enter Tryz.func64, Tryz.ntmps64
          go_wp2_with (first
            | (go_at_call 83; refine hF1.mono ?_; rintro e w1 ⟨rfl, hb1⟩)
            | (go_at_call 92; refine (hVal _).mono ?_; rintro e w2 ⟨rfl, hb2⟩; have hb9 := (hb0.trans (hb1.mono (by simp))).trans (hb2.mono (by have := hb1.size; simp at this; omega)); have hl9 := hlen _ hb9; have c9 := hcell _ hb9))
          go_ret
          exact ⟨rfl, hb9⟩
        · by_cases h5 : tm = 18446744073709551615
          · obtain rfl : r = 3 := by rw [hid_elim hr, if_neg (by simp), if_neg (by simp), if_neg h3, if_neg h4, if_pos h5]
            rw [Tryz.errV_nz (by decide)]
            subst h5
            clear hr h3
            go_enter Tryz.func64, Tryz.ntmps64
            go_wp2_with (first
              | (go_at_call 83; refine hF1.mono ?_; rintro e w1 ⟨rfl, hb1⟩)
              | (go_at_call 92; refine (hVal _).mono ?_; rintro e w2 ⟨rfl, hb2⟩; have hb9 := (hb0.trans (hb1.mono (by simp))).trans (hb2.mono (by have := hb1.size; simp at this; omega)); have hl9 := hlen _ hb9; have c9 := hcell _ hb9; have t9 := htime _ hb9))
            go_ret
            exact ⟨rfl, hb9⟩
          · obtain rfl : r = 0 := by rw [hid_elim hr, if_neg (by simp), if_neg (by simp), if_neg h3, if_neg h4, if_neg h5]
            have h5' : (tm == 18446744073709551615) = false := by simpa using h5
            rw [show Tryz.errV 0 = .nilIface from rfl]
            clear hr h3 h5
            go_enter Tryz.func64, Tryz.ntmps64
            go_wp2_with (first
              | (go_at_call 83; refine hF1.mono ?_; rintro e w1 ⟨rfl, hb1⟩)
              | (go_at_call 92; refine (hVal _).mono ?_; rintro e w2 ⟨rfl, hb2⟩; have hb9 := (hb0.trans (hb1.mono (by simp))).trans (hb2.mono (by have := hb1.size; simp at this; omega)); have hl9 := hlen _ hb9; have c9 := hcell _ hb9; have t9 := htime _ hb9))
            go_ret
            exact ⟨rfl, hb9⟩
end Go.Proofs

/-
  The code: Issue.
-/
namespace Go.Proofs
open Go.RowKit Go.Sort Go.Lib Go.Shelf Go.Maps

set_option maxHeartbeats 1000000 in
theorem Tryz.vIssue_err (vb mt ml : Nat) (vx : VX) (tm tn ln : Int) (tks : List TokE) (lks : List LeaE) (w : World) (hV : Tryz.VaultAt w vb mt ml vx tm tn ln tks lks) (id pth : List UInt8) (hid : id.length ≤ 1000000) (ttl most k : Int) (hk : k ≠ 0)
    (hF : ∀ W, Below w.heap.size w W → Calls Tryz.prog 64 #[.pointer (some ⟨vb, 0, none⟩), nmV (parseN id), .string ⟨pth.toArray⟩, .int .u64 ttl, .int .u64 most] W fun e w' => e = .returned (Tryz.errV k) ∧ Below W.heap.size W w') :
    Calls Tryz.prog 41 #[.pointer (some ⟨vb, 0, none⟩), .string ⟨id.toArray⟩, .string ⟨pth.toArray⟩, .int .u64 ttl, .int .u64 most] w fun e w' => e = .returned (.tuple #[.string ⟨#[]⟩, .iface 33 (.int .i64 k)]) ∧ Below w.heap.size w w' := by
  have hP := Tryz.parse ⟨id.toArray⟩ (by simpa [ByteArray.size] using hid) w hV.env hV.six
  simp only at hP
  rw [Tryz.errV_nz hk] at hF
  generalize parseN id = x at *
  unfold nmV at hP hF
  clear hk
  go_enter Tryz.func41, Tryz.ntmps41
  go_wp2_with (first
    | (go_at_call 63; refine hP.mono ?_; rintro e w1 ⟨rfl, hb1⟩; have hF1 := hF _ (hb1.alloc hb1.size (.cells #[.int .i64 x.1, .int .u64 x.2] 114)))
    | (go_at_call 64; refine hF1.mono ?_; rintro e w2 ⟨rfl, hb2⟩))
  exact bodyPost_ret (v := .tuple #[.string ⟨#[]⟩, .iface 33 (.int .i64 k)]) (by simp [results, Tryz.results41, go_sem]) rfl ⟨rfl, (hb1.alloc hb1.size _).trans (hb2.mono (by have := hb1.size; simp; omega))⟩

/-- a new lease. -/
def newL (n m : Nat) (at_ last : Int) (pth : List UInt8) : LeaE := ⟨n, 1, m, at_, 0, false, pth, last⟩
abbrev Tryz.IsP (vb ab : Nat) (m tm : Int) (W : World) : Prop :=
  W.cell? ⟨vb, 2, none⟩ = some (.int .u64 tm) ∧ W.cell? ⟨ab, 0, none⟩ = some (.int .i64 1) ∧ W.cell? ⟨ab, 1, none⟩ = some (.int .u64 m)
theorem Tryz.IsP.below {vb ab : Nat} {m tm : Int} {W W' : World} (h : Tryz.IsP vb ab m tm W) (hb : Below W.heap.size W W') : Tryz.IsP vb ab m tm W' := ⟨cell_later hb h.1, cell_later hb h.2.1, cell_later hb h.2.2⟩
theorem plusI_range (a b : Int) (ha : 0 ≤ a) (ha1 : a ≤ 18446744073709551615) (hb : 0 ≤ b) (hb1 : b ≤ 18446744073709551615) : 0 ≤ plusI a b ∧ plusI a b ≤ 18446744073709551615 := by
  unfold plusI
  split <;> omega

set_option maxRecDepth 100000 in
set_option maxHeartbeats 2000000 in
theorem Tryz.vIssue_ok (k : Blk) (vx : VX) (tm : Int) (s : VSt) (c : List UInt8) (l f : Int) (w : World) (hW : Tryz.Whole w k vx tm s c l f) (hl : l < 0) (hl1 : -999999990 ≤ l) (hf : f < 0) (hf1 : -999999990 ≤ f) (hc : c.length ≤ 900000000000) (id pth : List UInt8) (hid : id.length ≤ 1000000) (ttl most : Int) (ht0 : 0 ≤ ttl) (ht1 : ttl ≤ 18446744073709551615) (hq0 : 0 ≤ most) (hq1 : most ≤ 18446744073709551615) (hp24 : pth.length ≤ 24) (hpa : Ascii pth) (m : Nat) (hm64 : m < u64lim) (hm : parseN id = (1, (m : Int)))
    (hF : ∀ W, Below w.heap.size w W → Calls Tryz.prog 64 #[.pointer (some ⟨k.vb, 0, none⟩), nmV (parseN id), .string ⟨pth.toArray⟩, .int .u64 ttl, .int .u64 most] W fun e w' => e = .returned .nilIface ∧ Below W.heap.size W w') (h14 : s.lks.length < 14) (hln : s.ln < 9223372036854775807) :
    Calls Tryz.prog 41 #[.pointer (some ⟨k.vb, 0, none⟩), .string ⟨id.toArray⟩, .string ⟨pth.toArray⟩, .int .u64 ttl, .int .u64 most] w fun e w' => e = .returned (.tuple #[.string ⟨(nmStr 2 (s.ln + 1)).toArray⟩, .nilIface]) ∧ Tryz.Whole w' k vx tm ⟨s.tn, s.ln + 1, s.tks, s.lks ++ [newL (s.ln + 1) m (plusI tm ttl) (plusI tm most) pth]⟩ (c ++ keepLine tm [.lea (newL (s.ln + 1) m (plusI tm ttl) (plusI tm most) pth)]) (l - 2) (f - 2) ∧ Spares k.turns w w' := by
  have hA1 := fun W => Tryz.later tm ttl hW.v.t0 hW.v.t1 ht0 ht1 W
  have hA2 := fun W => Tryz.later tm most hW.v.t0 hW.v.t1 hq0 hq1 W
  have hr1 := plusI_range tm ttl hW.v.t0 hW.v.t1 ht0 ht1
  have hr2 := plusI_range tm most hW.v.t0 hW.v.t1 hq0 hq1
  generalize plusI tm ttl = at0 at *
  generalize plusI tm most = la0 at *
  have hP := Tryz.parse ⟨id.toArray⟩ (by simpa [ByteArray.size] using hid) w hW.v.va.env hW.v.va.six
  simp only at hP
  have htime := fun W (hb : Below w.heap.size w W) => (hW.v.va.below hb).v.cell 2 (v := .int .u64 tm) rfl
  have hcn := fun W (hb : Below w.heap.size w W) => (hW.v.va.below hb).v.cell 6 (v := .int .u64 (s.ln : Int)) rfl
  have hfit : (Item.lea (newL (s.ln + 1) m at0 la0 pth)).Fits s := ⟨⟨hr1.1, hr1.2, show (-9223372036854775808 : Int) ≤ 0 by decide, show (0 : Int) ≤ 9223372036854775807 by decide, hr2.1, hr2.2, hp24, hpa⟩, .inr (fun x hx => by have := hW.v.nl x hx; show x.n < s.ln + 1; omega), by omega, show s.ln + 1 < u64lim by unfold u64lim; omega, hm64⟩
  have happ : (Item.lea (newL (s.ln + 1) m at0 la0 pth)).app s = ⟨s.tn, s.ln + 1, s.tks, s.lks ++ [newL (s.ln + 1) m at0 la0 pth]⟩ := by
    show VSt.mk s.tn (max s.ln (s.ln + 1)) s.tks (putLea (newL (s.ln + 1) m at0 la0 pth) s.lks) = _
    rw [putLea_new (fun x hx => by have := hW.v.nl x hx; show x.n < s.ln + 1; omega), show max s.ln (s.ln + 1) = s.ln + 1 by omega]
  have hK := fun W (hb : Below w.heap.size w W) => Tryz.keep1 k vx tm s c l f (.lea (newL (s.ln + 1) m at0 la0 pth)) W (hW.below hb) hl hl1 hf hf1 hc hfit
  rw [happ] at hK
  have hER := fun W b (h0 : BoxN W b 131 #[.int .i64 1, .int .u64 (m : Int), .int .u64 at0, .int .i64 0, .bool false, .string ⟨pth.toArray⟩, .int .u64 la0]) => Tryz.leaRecord b 2 ((s.ln + 1 : Nat) : Int) 1 m at0 0 false pth la0 W (h0.cell 0 rfl) (h0.cell 1 rfl) (h0.cell 2 rfl) (h0.cell 3 rfl) (h0.cell 4 rfl) (h0.cell 5 rfl) (h0.cell 6 rfl)
  have hNS := fun W hE h6 => Tryz.nameString 2 (s.ln + 1) (by omega) W hE h6
  obtain ⟨z, hz⟩ : ∃ z : Int, (s.ln : Int) = z := ⟨_, rfl⟩
  have hz2 : ((s.ln + 1 : Nat) : Int) = z + 1 := by omega
  have hz0 : 0 ≤ z := by omega
  have hz1 : z < 9223372036854775807 := by omega
  simp only [hz] at hcn
  rw [hm] at hP hF
  unfold nmV at hP hF
  simp only at hP hF
  change ∀ W, Below w.heap.size w W → Calls Tryz.prog 66 _ (W.alloc (.cells #[.int .i64 1, .int .i64 2, .int .u64 ((s.ln + 1 : Nat) : Int), .int .i64 1, .int .u64 (m : Int), .bool false, .int .u64 at0, .int .i64 0, .int .u64 la0, .string ⟨pth.toArray⟩] 135)) _ at hK
  unfold recCells at hER
  rw [hz2] at hK hER
  simp only [hz2] at hNS
  obtain ⟨str, hstr⟩ : ∃ str, nmStr 2 (s.ln + 1) = str := ⟨_, rfl⟩
  rw [hstr] at hNS
  have Hstr := hid_intro hstr
  obtain ⟨kl, hkl⟩ : ∃ kl, keepLine tm [.lea (newL (s.ln + 1) m at0 la0 pth)] = kl := ⟨_, rfl⟩
  rw [hkl] at hK
  have Hkl := hid_intro hkl
  obtain ⟨s', hs'⟩ : ∃ s' : VSt, (⟨s.tn, s.ln + 1, s.tks, s.lks ++ [newL (s.ln + 1) m at0 la0 pth]⟩ : VSt) = s' := ⟨_, rfl⟩
  rw [hs'] at hK
  have Hs' := hid_intro hs'
  have hfresh : ∀ W, Below w.heap.size w W → W.heap.size ∉ k.turns := fun W hb hm => by
    have := hW.lts _ hm
    have := hb.size
    omega
  have lV := hW.v.va.v.lt
  clear hstr hkl hs' happ hfit hz hz2 hm hr1 hr2
  go_enter Tryz.func41, Tryz.ntmps41
  go_wp2_with (first
    | (go_at_call 63; refine hP.mono ?_; rintro e w1 ⟨rfl, hb1⟩; have hF1 := hF _ (hb1.alloc hb1.size (.cells #[.int .i64 1, .int .u64 (m : Int)] 114)))
    | (go_at_call 64; refine hF1.mono ?_; rintro e w2 ⟨rfl, hb2⟩; have hb3 := (hb1.alloc hb1.size (.cells #[.int .i64 1, .int .u64 (m : Int)] 114)).trans (hb2.mono (by have := hb1.size; simp; omega)); have c4 := hcn _ hb3; have c5 := htime _ hb3; have bA := (BoxN.new w1 114 #[.int .i64 1, .int .u64 (m : Int)]).below hb2 (by simp); have a0 := bA.cell 0 (v := .int .i64 1) rfl; have a1 := bA.cell 1 (v := .int .u64 (m : Int)) rfl; have lA := bA.lt))
  have hz3 := hb3.size
  have hP3 : Tryz.IsP k.vb w1.heap.size m tm (w2.alloc (.cells #[.int .i64 2, .int .u64 (z + 1)] 114)).drew := Tryz.IsP.below (W := w2) ⟨c5, a0, a1⟩ (((Below.refl _ w2).alloc (Nat.le_refl _) _).drew)
  have hP4 : ∀ o, Tryz.IsP k.vb w1.heap.size m tm ((w2.alloc (.cells #[.int .i64 2, .int .u64 (z + 1)] 114)).alloc o).drew := fun o => Tryz.IsP.below (W := w2) ⟨c5, a0, a1⟩ (((Below.refl _ w2).alloc (Nat.le_refl _) _).alloc (by simp) _).drew
  clear c4 c5 a0 a1
  go_region_held3 (Tryz.IsP k.vb w1.heap.size m tm) (first
    | with_reducible exact hP3
    | with_reducible exact hP4 _
    | with_reducible assumption) (first
    | (go_at_call_of 65 (Value.int .u64 ttl); refine (hA1 _).mono ?_; rintro e w3 ⟨rfl, rfl⟩)
    | (go_at_call_of 65 (Value.int .u64 most); refine (hA2 _).mono ?_; rintro e w4 ⟨rfl, rfl⟩))
  all_goals
    have bL := BoxN.new (w2.alloc (.cells #[.int .i64 2, .int .u64 (z + 1)] 114)) 131 #[.int .i64 1, .int .u64 (m : Int), .int .u64 at0, .int .i64 0, .bool false, .string ⟨pth.toArray⟩, .int .u64 la0]
    have bN := (BoxN.new w2 114 #[.int .i64 2, .int .u64 (z + 1)]).alloc (.cells #[.int .i64 1, .int .u64 (m : Int), .int .u64 at0, .int .i64 0, .bool false, .string ⟨pth.toArray⟩, .int .u64 la0] 131)
    rw [World.size_alloc] at bL
    have hb4 : Below w.heap.size w ((w2.alloc (.cells #[.int .i64 2, .int .u64 (z + 1)] 114)).alloc (.cells #[.int .i64 1, .int .u64 (m : Int), .int .u64 at0, .int .i64 0, .bool false, .string ⟨pth.toArray⟩, .int .u64 la0] 131)).drew := ((hb3.alloc hb3.size _).alloc (by simp; omega) _).drew
    have bL' : BoxN ((w2.alloc (.cells #[.int .i64 2, .int .u64 (z + 1)] 114)).alloc (.cells #[.int .i64 1, .int .u64 (m : Int), .int .u64 at0, .int .i64 0, .bool false, .string ⟨pth.toArray⟩, .int .u64 la0] 131)).drew _ _ _ := bL
    have bN' : BoxN ((w2.alloc (.cells #[.int .i64 2, .int .u64 (z + 1)] 114)).alloc (.cells #[.int .i64 1, .int .u64 (m : Int), .int .u64 at0, .int .i64 0, .bool false, .string ⟨pth.toArray⟩, .int .u64 la0] 131)).drew _ _ _ := bN
    clear bL bN hP3 hP4
    obtain ⟨W4, hW4⟩ : ∃ W4, ((w2.alloc (.cells #[.int .i64 2, .int .u64 (z + 1)] 114)).alloc (.cells #[.int .i64 1, .int .u64 (m : Int), .int .u64 at0, .int .i64 0, .bool false, .string ⟨pth.toArray⟩, .int .u64 la0] 131)).drew = W4 := ⟨_, rfl⟩
    rw [hW4] at hb4 bL' bN' ⊢
    clear hW4
    have n0 := bN'.cell 0 (v := .int .i64 2) rfl
    have n1 := bN'.cell 1 (v := .int .u64 (z + 1)) rfl
    go_wp2_with (first
      | (go_at_call 67; refine (hER _ _ bL').mono ?_; rintro e w5 ⟨rfl, hb5⟩; have hb6 : Below w.heap.size w w5 := hb4.trans (hb5.mono hb4.size); have bN5 := bN'.below hb5 bN'.lt; have hK6 := hK w5 hb6)
      | (go_at_call 66; refine hK6.mono ?_; rintro e w7 ⟨rfl, hW7, hS7⟩; have bN7 := hS7.box bN5 (hfresh w2 hb3); have n7 := bN7.cell 0 (v := .int .i64 2) rfl; have n8 := bN7.cell 1 (v := .int .u64 (z + 1)) rfl)
      | (go_at_call 68; refine (hNS _ hW7.v.va.env hW7.v.va.six).mono ?_; rintro e w8 ⟨rfl, hb8⟩))
    exact bodyPost_ret (v := .tuple #[.string ⟨str.toArray⟩, .nilIface]) (by simp [results, Tryz.results41, go_sem]) rfl ⟨by rw [hid_elim Hstr], by rw [hid_elim Hkl, hid_elim Hs']; exact hW7.below hb8, ((Spares.of_below hb6).trans hS7).trans (Spares.of_below hb8)⟩
end Go.Proofs
