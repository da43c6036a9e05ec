import Derived.Test.YtjbekgjdempbiaaGreatDoorJVRenew
import Derived.Test.YtjbekgjdempbiaaGreatDoorJCodeA
import Derived.Test.YtjbekgjdempbiaaGreatDoorJParse
import Derived.Test.YtjbekgjdempbiaaGreatDoorJHostW
import Derived.Test.YtjbekgjdempbiaaGreatDoorJHeapP
import Derived.Test.YtjbekgjdempbiaaGreatDoorJVRev
/-
  What is live on both sides; paths.
-/
namespace Go.Proofs
open Go.RowKit Go.Sort Go.Lib Go.Shelf Go.Maps

theorem pstep_lt {c : UInt8} {o b : Bool} (h : pstep (some o) c = some b) : c.toNat < 128 := by
  by_cases h47 : c.toNat = 47
  · omega
  · simp only [pstep, if_neg h47] at h
    by_cases hn : nameCh c = true
    · simp [nameCh] at hn
      omega
    · rw [if_neg hn] at h; cases h
theorem pfold_ascii : ∀ (s : List UInt8) (o b : Bool), s.foldl pstep (some o) = some b → ∀ c ∈ s, c.toNat < 128
  | [], _, _, _, _, h => by cases h
  | a :: s, o, b, hf, c, hc => by
    rw [List.foldl_cons] at hf
    cases hp : pstep (some o) a with
    | none => rw [hp, pstep_none] at hf; cases hf
    | some o' =>
      rcases List.mem_cons.1 hc with rfl | hc
      · exact pstep_lt hp
      · rw [hp] at hf
        exact pfold_ascii s o' b hf c hc
theorem path_ok {s : List UInt8} (h : pathI s = true) : s.length ≤ 24 ∧ Ascii s := by
  unfold pathI at h
  rw [Bool.and_eq_true] at h
  exact ⟨by simpa using h.2, pfold_ascii s false true (by simpa using h.1)⟩

section
variable {vb mt ml : Nat} {vx : VX} {tm tn ln : Int} {tks : List TokE} {lks : List LeaE} {L : List ThingD}
theorem state_tok {tm : Int} {t : TokE} (h : (thT t).state tm = 1) : t.pd = false := by
  cases hp : t.pd
  · rfl
  · simp [ThingD.state, thT, hp] at h
theorem state_lea {tm : Int} {l : LeaE} : (thL l).state tm = 1 ↔ (!l.pd && decide (tm < l.at_)) = true := by
  cases hp : l.pd
  · simp [ThingD.state, thL, hp]
  · simp [ThingD.state, thL, hp]

theorem Tryz.tokLive (w : World) (hV : Tryz.VaultAt w vb mt ml vx tm tn ln tks lks) (hl : Rel tks lks L) (id : List UInt8) :
    Calls Tryz.prog 83 #[.pointer (some ⟨vb, 0, none⟩), nmV (parseN id)] w fun e w' => e = .returned (.bool (decide (0 ≤ liveI tm id true L))) ∧ Below w.heap.size w w' := by
  rcases liveI_cases tm id true L with ⟨i, t, ht, hid, htk, hst, hli⟩ | hli
  · have hm := List.mem_of_getElem? ht
    obtain ⟨a, ha, rfl⟩ := hl.tok_mem hm htk
    have hp := liveI_hit (L := L) hid htk (hl.num hV.ok hm) hli
    rw [hp, hli]
    have h := Tryz.isLive_hit vb mt ml vx tm tn ln tks lks w hV a ha
    rw [state_tok hst] at h
    refine h.mono ?_
    rintro e w' ⟨rfl, hb⟩
    exact ⟨by simp, hb⟩
  · rw [hli]
    have hno : ∀ a ∈ tks, a.pd = false → parseN id ≠ (1, (a.n : Int)) := fun a ha hp => hl.live_miss hV.ok hli (hl.mem_tok ha) rfl (by simp [ThingD.state, thT, hp])
    by_cases he : ∃ a ∈ tks, parseN id = (1, (a.n : Int))
    · obtain ⟨a, ha, hp⟩ := he
      have hpd : a.pd = true := by
        cases h : a.pd
        · exact absurd hp (hno a ha h)
        · rfl
      rw [hp]
      have h := Tryz.isLive_hit vb mt ml vx tm tn ln tks lks w hV a ha
      rw [hpd] at h
      refine h.mono ?_
      rintro e w' ⟨rfl, hb⟩
      exact ⟨by simp, hb⟩
    · have h := Tryz.isLive_miss vb mt ml vx tm tn ln tks lks w hV (parseN id) (parseN_wf id) (fun a ha e => he ⟨a, ha, e⟩)
      refine h.mono ?_
      rintro e w' ⟨rfl, hb⟩
      exact ⟨by simp, hb⟩
theorem leaLive_hit (ok : ListsOk tks lks) (hl : Rel tks lks L) {id : List UInt8} {i : Nat} {t : ThingD} (ht : L[i]? = some t) (hid : t.id = id) (htk : t.token = false) (hst : t.state tm = 1) (hli : liveI tm id false L = i) :
    ∃ (k : Nat) (l : LeaE), lks[k]? = some l ∧ thL l = t ∧ parseN id = (2, (l.n : Int)) ∧ (!l.pd && decide (tm < l.at_)) = true ∧ ∀ a : Int, Rel tks (lks.set k { l with at_ := a }) (L.set i { t with at_ := a }) := by
  obtain ⟨k, l, hk, rfl, hr⟩ := hl.lea_at ht htk
  exact ⟨k, l, hk, rfl, liveI_hit (L := L) hid htk (hl.num ok (List.mem_of_getElem? ht)) hli, state_lea.1 hst, hr⟩
/-- a lease that is not live: whatever the code has in hand. -/
theorem Tryz.leaLive_miss (hok : ListsOk tks lks) (hl : Rel tks lks L) (id : List UInt8) (hli : liveI tm id false L = -1) :
    ∃ (ak au at_ tr : Int) (pd : Bool) (lp : List UInt8) (la : Int), ∀ w, Tryz.VaultAt w vb mt ml vx tm tn ln tks lks → Calls Tryz.prog 71 #[.pointer (some ⟨vb, 0, none⟩), nmV (parseN id)] w fun e w' => e = .returned (.tuple #[.agg #[.int .i64 ak, .int .u64 au, .int .u64 at_, .int .i64 tr, .bool pd, .string ⟨lp.toArray⟩, .int .u64 la], .bool false]) ∧ Below w.heap.size w w' := by
  have hno : ∀ a ∈ lks, (!a.pd && decide (tm < a.at_)) = true → parseN id ≠ (2, (a.n : Int)) := fun a ha hp => hl.live_miss hok hli (hl.mem_lea ha) rfl (state_lea.2 hp)
  by_cases he : ∃ a ∈ lks, parseN id = (2, (a.n : Int))
  · obtain ⟨a, ha, hp⟩ := he
    refine ⟨a.ak, a.au, a.at_, a.tr, a.pd, a.pth, a.last, fun w hV => ?_⟩
    have h := Tryz.liveLease_hit vb mt ml vx tm tn ln tks lks w hV a ha
    have hf : (!a.pd && decide (tm < a.at_)) = false := by
      cases hb : (!a.pd && decide (tm < a.at_))
      · rfl
      · exact absurd hp (hno a ha hb)
    rw [hf] at h
    rw [hp]
    exact h
  · refine ⟨0, 0, 0, 0, false, [], 0, fun w hV => Tryz.liveLease_miss vb mt ml vx tm tn ln tks lks w hV (parseN id) (parseN_wf id) (fun a ha e => he ⟨a, ha, e⟩)⟩
end
end Go.Proofs

/-
  plain.Host's calls as the statements without the document's answer make them: what they ask for is done.
-/
namespace Go.Proofs
open Go.RowKit Go.Sort Go.Lib Go.Shelf Go.Maps

theorem parse_tok {n : Nat} (h : n < u64lim) : parseN (nmStr 1 n) = (1, (n : Int)) := parseN_nm true h
theorem parse_lea {n : Nat} (h : n < u64lim) : parseN (nmStr 2 n) = (2, (n : Int)) := parseN_nm false h
theorem nm_len1 {n : Nat} (h : n < u64lim) : (nmStr 1 n).length ≤ 1000000 := by
  have := decDigits_len n h
  simp [nmStr]
  omega
theorem nm_len {n : Nat} (h : n < u64lim) : (nmStr 2 n).length ≤ 1000000 := by
  have := decDigits_len n h
  simp [nmStr]
  omega

section
variable {B hb rb : Nat} {k : Blk} {vx : VX} {tm : Int} {tn ln : Nat} {tks : List TokE} {lks : List LeaE} {c : List UInt8} {w : World}
theorem Tryz.kIssue (hS : Tryz.Sys B w hb rb ⟨k, vx, tm, ⟨tn, ln, tks, lks⟩, c⟩) (m : TokE) (hm : m ∈ tks) (hlv : m.pd = false) (pth : List UInt8) (hpv : pathI pth = true) (ttl most : Int) (h1 : 0 < ttl) (h2 : ttl ≤ most) (h3 : most ≤ 18446744073709551615) (h14 : lks.length < 14) (hln : ln < 1000000) (htm : tm ≠ 18446744073709551615) (hc : c.length ≤ 900000000000) (cc dd : Int) :
    Calls Tryz.prog 18 #[.pointer (some ⟨hb, 0, none⟩), .string ⟨(nmStr 1 m.n).toArray⟩, .string ⟨pth.toArray⟩, .int .u64 ttl, .int .u64 most, fallV (-1) (-1) cc dd] w fun e w' => e = .returned (.tuple #[.string ⟨(nmStr 2 (ln + 1)).toArray⟩, .int .i64 0]) ∧ (∃ c', c'.length ≤ c.length + 1300000 ∧ Tryz.Sys B w' hb rb ⟨k, vx, tm, ⟨tn, ln + 1, tks, lks ++ [newL (ln + 1) m.n (plusI tm ttl) (plusI tm most) pth]⟩, c'⟩) ∧ Spares k.turns w w' := by
  have t0 := hS.wh.v.t0
  have t1 := hS.wh.v.t1
  have hlim := (hS.wh.v.va.ok.limT m hm).1
  obtain ⟨hp24, hpa⟩ := path_ok hpv
  have r1 := plusI_range tm ttl t0 t1 (by omega) (by omega)
  have r2 := plusI_range tm most t0 t1 (by omega) h3
  have hkl : (keepLine tm [.lea (newL (ln + 1) m.n (plusI tm ttl) (plusI tm most) pth)]).length ≤ 1300000 := keepLine_len t0 t1 (s := ⟨tn, ln, tks, lks⟩) ⟨⟨⟨r1.1, r1.2, show (-9223372036854775808 : Int) ≤ 0 by decide, show (0 : Int) ≤ 9223372036854775807 by decide, r2.1, r2.2, hp24, hpa⟩, .inr (fun x hx => by have := hS.wh.v.nl x hx; show x.n < ln + 1; simp at this; omega), by show lks.length < 500; omega, show ln + 1 < u64lim by unfold u64lim; omega, hlim⟩, trivial⟩ (by simp)
  have h := Tryz.hIssue B hb rb _ w hS (nmStr 1 m.n) pth ttl most cc dd (.string ⟨(nmStr 2 (ln + 1)).toArray⟩) .nilIface 0 (fun W _ => Tryz.told_nil W) (fun σ' => σ' = ⟨k, vx, tm, ⟨tn, ln + 1, tks, lks ++ [newL (ln + 1) m.n (plusI tm ttl) (plusI tm most) pth]⟩, c ++ keepLine tm [.lea (newL (ln + 1) m.n (plusI tm ttl) (plusI tm most) pth)]⟩)
    (fun W _ hV => by
      have hMay : ∀ W', Below W.heap.size W W' → Calls Tryz.prog 64 #[.pointer (some ⟨k.vb, 0, none⟩), nmV (parseN (nmStr 1 m.n)), .string ⟨pth.toArray⟩, .int .u64 ttl, .int .u64 most] W' fun e w' => e = .returned .nilIface ∧ Below W'.heap.size W' w' := fun W' hb' => by
        have hq := Tryz.mayIssue k.vb k.mt k.ml vx tm tn ln tks lks W' (hV.v.va.below hb') (parseN (nmStr 1 m.n)) true pth (by omega) ttl most (fun W2 hb2 => by
          rw [parse_tok hlim]
          have hl := Tryz.isLive_hit k.vb k.mt k.ml vx tm _ _ tks lks W2 ((hV.v.va.below hb').below hb2) m hm
          rw [hlv] at hl
          exact hl)
        have he : mayE true (pathI pth) ttl most lks.length tm = 0 := by
          unfold mayE
          rw [hpv, if_neg (by simp), if_neg (by simp), if_neg (by omega), if_neg (by omega), if_neg htm]
        rw [he] at hq
        exact hq
      refine (Tryz.vIssue_ok k vx tm ⟨tn, ln, tks, lks⟩ c (-1) (-1) W hV (by decide) (by decide) (by decide) (by decide) hc (nmStr 1 m.n) pth (nm_len1 hlim) ttl most (by omega) (by omega) (by omega) h3 hp24 hpa m.n hlim (parse_tok hlim) hMay h14 (by show ln < _; omega)).mono ?_
      rintro e w' ⟨rfl, hV', hs'⟩
      exact ⟨rfl, ⟨_, _, _, ⟨rfl, rfl, rfl⟩, hV'⟩, hs'⟩)
  refine h.mono ?_
  rintro e w' ⟨rfl, ⟨σ', ⟨rfl, -, -⟩, hS'⟩, hs⟩
  exact ⟨rfl, ⟨_, by simp only [List.length_append]; omega, hS'⟩, hs⟩

theorem Tryz.kAuth (hS : Tryz.Sys B w hb rb ⟨k, vx, tm, ⟨tn, ln, tks, lks⟩, c⟩) (l : LeaE) (hl : l ∈ lks) (pth : List UInt8) :
    Calls Tryz.prog 23 #[.pointer (some ⟨hb, 0, none⟩), .string ⟨(nmStr 2 l.n).toArray⟩, .string ⟨pth.toArray⟩] w fun e w' => e = .returned (.bool ((!l.pd && decide (tm < l.at_)) && (l.pth == pth))) ∧ Below w.heap.size w w' := by
  have hlim := (hS.wh.v.va.ok.limL l hl).1
  have hP := Tryz.parse ⟨(nmStr 2 l.n).toArray⟩ (by simpa [ByteArray.size] using nm_len hlim) w hS.wh.v.va.env hS.wh.v.va.six
  simp only [parse_lea hlim] at hP
  exact Tryz.hAuth hb k.db rb k.vb w hS.host _ _ _ (Tryz.vAuth_any k.vb w (nmStr 2 l.n) pth _ l.ak l.au l.at_ l.tr l.pd l.pth l.last (!l.pd && decide (tm < l.at_)) hP (fun W2 hb2 => Tryz.liveLease_hit k.vb k.mt k.ml vx tm tn ln tks lks W2 (hS.wh.v.va.below hb2) l hl))

theorem Tryz.kRenew (hS : Tryz.Sys B w hb rb ⟨k, vx, tm, ⟨tn, ln, tks, lks⟩, c⟩) (i : Nat) (l : LeaE) (hl : lks[i]? = some l) (hlv : (!l.pd && decide (tm < l.at_)) = true) (ttl : Int) (h0 : 0 ≤ ttl) (h1 : ttl ≤ 18446744073709551615) (h500 : lks.length < 500) (hc : c.length ≤ 900000000000) (cc dd : Int) :
    Calls Tryz.prog 20 #[.pointer (some ⟨hb, 0, none⟩), .string ⟨(nmStr 2 l.n).toArray⟩, .int .u64 ttl, fallV (-1) (-1) cc dd] w fun e w' => e = .returned (.tuple #[.int .u64 (renewL tm ttl l), .int .i64 0]) ∧ (∃ c', c'.length ≤ c.length + 1300000 ∧ Tryz.Sys B w' hb rb ⟨k, vx, tm, ⟨tn, ln, tks, lks.set i { l with at_ := renewL tm ttl l }⟩, c'⟩) ∧ Spares k.turns w w' := by
  have hlim := (hS.wh.v.va.ok.limL l (List.mem_of_getElem? hl)).1
  have h := Tryz.hRenew B hb rb _ w hS (nmStr 2 l.n) ttl cc dd (.int .u64 (renewL tm ttl l)) .nilIface 0 (fun W _ => Tryz.told_nil W) (fun σ' => ∃ c', c'.length ≤ c.length + 1300000 ∧ σ' = ⟨k, vx, tm, ⟨tn, ln, tks, lks.set i { l with at_ := renewL tm ttl l }⟩, c'⟩)
    (fun W _ hV => by
      refine (Tryz.vRenew_hit k vx tm ⟨tn, ln, tks, lks⟩ c (-1) (-1) W hV (by decide) (by decide) (by decide) (by decide) hc (nmStr 2 l.n) (nm_len hlim) i l hl (parse_lea hlim) hlv ttl h0 h1 h500).mono ?_
      rintro e w' ⟨rfl, ⟨c', l', f', hc', -, -, -, -, hV'⟩, hs'⟩
      exact ⟨rfl, ⟨_, l', f', ⟨⟨c', hc', rfl⟩, rfl, rfl⟩, hV'⟩, hs'⟩)
  refine h.mono ?_
  rintro e w' ⟨rfl, ⟨σ', ⟨⟨c', hc', rfl⟩, -, -⟩, hS'⟩, hs⟩
  exact ⟨rfl, ⟨c', hc', hS'⟩, hs⟩

theorem Tryz.kRevoke (hS : Tryz.Sys B w hb rb ⟨k, vx, tm, ⟨tn, ln, tks, lks⟩, c⟩) (i : Nat) (l : LeaE) (hl : lks[i]? = some l) (hlv : (!l.pd && decide (tm < l.at_)) = true) (h500 : lks.length < 500) (hc : c.length ≤ 900000000000) (cc dd : Int) :
    Calls Tryz.prog 28 #[.pointer (some ⟨hb, 0, none⟩), .string ⟨(nmStr 2 l.n).toArray⟩, fallV (-1) (-1) cc dd] w fun e w' => e = .returned (.int .i64 0) ∧ (∃ c', c'.length ≤ c.length + 1300000 ∧ Tryz.Sys B w' hb rb ⟨k, vx, tm, ⟨tn, ln, tks, lks.set i { l with pd := true, at_ := tm }⟩, c'⟩) ∧ Spares k.turns w w' := by
  have hm := List.mem_of_getElem? hl
  have hlim := hS.wh.v.va.ok.limL l hm
  have hokt := hS.wh.v.okL l hm
  have t0 := hS.wh.v.t0
  have t1 := hS.wh.v.t1
  have hkl : (keepLine tm [.lea { l with pd := true, at_ := tm }]).length ≤ 1300000 := keepLine_len t0 t1 (s := ⟨tn, ln, tks, lks⟩) ⟨⟨⟨t0, t1, hokt.r0, hokt.r1, hokt.l0, hokt.l1, hokt.p1, hokt.pa⟩, .inl ⟨l, hm, rfl⟩, h500, hlim.1, hlim.2⟩, trivial⟩ (by simp)
  have h := Tryz.hRevoke B hb rb _ w hS (nmStr 2 l.n) cc dd .nilIface 0 (fun W _ => Tryz.told_nil W) (fun σ' => σ' = ⟨k, vx, tm, ⟨tn, ln, tks, lks.set i { l with pd := true, at_ := tm }⟩, c ++ keepLine tm [.lea { l with pd := true, at_ := tm }]⟩)
    (fun W _ hV => by
      obtain ⟨n, ak, au, at_, tr, pd, pth, la⟩ := l
      refine (Tryz.vRevoke_ok k vx tm ⟨tn, ln, tks, lks⟩ c (-1) (-1) W hV (by decide) (by decide) (by decide) (by decide) hc (nmStr 2 n) (nm_len hlim.1) ak n au at_ tr pd pth la i hl (parse_lea hlim.1) hlv h500 _ rfl _ rfl).mono ?_
      rintro e w' ⟨rfl, hV', hs'⟩
      exact ⟨rfl, ⟨_, _, _, ⟨rfl, rfl, rfl⟩, hV'⟩, hs'⟩)
  refine h.mono ?_
  rintro e w' ⟨rfl, ⟨σ', ⟨rfl, -, -⟩, hS'⟩, hs⟩
  exact ⟨rfl, ⟨_, by simp only [List.length_append]; omega, hS'⟩, hs⟩
end
end Go.Proofs
