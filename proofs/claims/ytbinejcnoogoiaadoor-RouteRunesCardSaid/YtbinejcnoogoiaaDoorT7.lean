/- Whether a text is one of characters only, by the library. -/
import Derived.Test.YtbinejcnoogoiaaDoorT6
set_option linter.unusedVariables false
set_option linter.unusedSimpArgs false
namespace Go.Proofs.YtbinejcnoogoiaaDoor
open Go.Proofs.YtbinejcnoogoiaaDoor.Pad Go.Proofs.YtbinejcnoogoiaaDoor.Pad.Route Go.Proofs.YtbinejcnoogoiaaDoor.Pad.Runes Go.Proofs.YtbinejcnoogoiaaDoor.Pad.Utf
theorem pf25 (l : List UInt8) (h : l.length ≤ 1000000) : PFx Tryd.prog 25 [.str l] (.bool (validL l)) := by
  refine PFx_of_W (rc := rc25) (rs := rs25) Tryd.func25 rfl T34_ok hm (by kernel_rfl) (by kernel_rfl) (by simp [Tryd.ntmps25]) ?_
  simp [rc25, rs25]
  refine W_varU (fun r : List UInt8 => validL r = validL l ∧ r.length ≤ l.length) (fun r => r.length) (fun r => [(0, .str r)]) l ⟨rfl, Nat.le_refl _⟩ (by simp) (fun r hr => ?_)
  obtain ⟨hv, hl⟩ := hr
  cases r with
  | nil =>
    simp
    rw [← hv]; rfl
  | cons a q =>
    simp only [List.length_cons] at hl
    have e0 : at' (a :: q) 0 = a.toNat := rfl
    by_cases ha : a.toNat < 128
    · have ha' : (a.toNat : Int) < 128 := by omega
      have hv1 : validL q = validL l := by rw [← hv, valid_ascii (a :: q) (by simp) (by omega)]; rfl
      by_cases hq : 8 < q.length
      · have hq' : 8 < (q.length : Int) := by omega
        have hw := T34_eq q ⟨by omega, by omega⟩
        by_cases hz : wd q &&& hiB = 0#64
        · generalize hq8 : q.drop 8 = q8
          have l8 : q8.length = q.length - 8 := by rw [← hq8, List.length_drop]
          have hv8 : validL q8 = validL l := by rw [← hv1, wd_skip hz (by omega), hq8]
          by_cases hc : 16 < q8.length
          · have hc' : 16 < (q8.length : Int) := by omega
            generalize hq16 : q8.drop 8 = q16
            have l16 : q16.length = q8.length - 8 := by rw [← hq16, List.length_drop]
            have hw8 := T34_eq q8 ⟨by omega, by omega⟩
            have hw16 := T34_eq q16 ⟨by omega, by omega⟩
            by_cases hz2 : (wd q8 ||| wd q16) &&& hiB = 0#64
            · have h2 := (or_and _ _).1 hz2
              generalize hq24 : q8.drop 16 = q24
              have l24 : q24.length = q8.length - 16 := by rw [← hq24, List.length_drop]
              have hv24 : validL q24 = validL l := by
                rw [← hv8, wd_skip h2.1 (by omega), hq16, wd_skip h2.2 (by omega), ← hq16, List.drop_drop, hq24]
              simp [ha', hq', hw, and_hi, bv_zero, bv_or64, hz, hq8, hc', hq16, hw8, hw16, hz2, hq24]
              refine ⟨by omega, by omega, by omega, by omega, ?_⟩
              refine W_varU (fun r : List UInt8 => validL r = validL l ∧ r.length ≤ q24.length) (fun r => r.length) (fun r => [(0, .str r)]) q24 ⟨hv24, Nat.le_refl _⟩ (by simp) (fun r hr => ?_)
              obtain ⟨hvr, hlr⟩ := hr
              by_cases hc3 : 32 < r.length
              · have hc3' : 32 < (r.length : Int) := by omega
                generalize hr8 : r.drop 8 = r8
                generalize hr16 : r.drop 16 = r16
                generalize hr24 : r.drop 24 = r24
                generalize hr32 : r.drop 32 = r32
                have m8 : r8.length = r.length - 8 := by rw [← hr8, List.length_drop]
                have m16 : r16.length = r.length - 16 := by rw [← hr16, List.length_drop]
                have m24 : r24.length = r.length - 24 := by rw [← hr24, List.length_drop]
                have m32 : r32.length = r.length - 32 := by rw [← hr32, List.length_drop]
                have x0 := T34_eq r ⟨by omega, by omega⟩
                have x8 := T34_eq r8 ⟨by omega, by omega⟩
                have x16 := T34_eq r16 ⟨by omega, by omega⟩
                have x24 := T34_eq r24 ⟨by omega, by omega⟩
                by_cases hz3 : (wd r ||| wd r8 ||| (wd r16 ||| wd r24)) &&& hiB = 0#64
                · have h3 := (or_and _ _).1 hz3
                  have h4 := (or_and _ _).1 h3.1
                  have h5 := (or_and _ _).1 h3.2
                  have hv32 : validL r32 = validL l := by
                    rw [← hvr, wd_skip h4.1 (by omega), hr8, wd_skip h4.2 (by omega), ← hr8, List.drop_drop, hr16, wd_skip h5.1 (by omega), ← hr16, List.drop_drop, hr24, wd_skip h5.2 (by omega), ← hr24, List.drop_drop, hr32]
                  simp [hc3', x0, x8, x16, x24, hr8, hr16, hr24, hr32, and_hi, bv_zero, bv_or64, hz3]
                  exact ⟨by omega, by omega, by omega, by omega, ⟨hv32, by omega⟩, by omega⟩
                · simp [hc3', x0, x8, x16, x24, hr8, hr16, hr24, hr32, and_hi, bv_zero, bv_or64, hz3]
                  exact ⟨by omega, by omega, by omega, ⟨hvr, by omega⟩, by omega⟩
              · have hc3' : ¬ 32 < (r.length : Int) := by omega
                simp [hc3']
                exact ⟨⟨hvr, by omega⟩, by omega⟩
            · simp [ha', hq', hw, and_hi, bv_zero, bv_or64, hz, hq8, hc', hq16, hw8, hw16, hz2]
              exact ⟨by omega, by omega, by omega, ⟨hv8, by omega⟩, by omega⟩
          · have hc' : ¬ 16 < (q8.length : Int) := by omega
            simp [ha', hq', hw, and_hi, bv_zero, bv_or64, hz, hq8, hc']
            exact ⟨by omega, by omega, ⟨hv8, by omega⟩, by omega⟩
        · simp [ha', hq', hw, and_hi, bv_zero, bv_or64, hz]
          exact ⟨by omega, ⟨hv1, by omega⟩⟩
      · have hq' : ¬ 8 < (q.length : Int) := by omega
        simp [ha', hq']
        exact ⟨by omega, ⟨hv1, by omega⟩⟩
    · have ha' : ¬ (a.toNat : Int) < 128 := by omega
      have hb := a.toNat_lt
      have hf : gl0[a.toNat]? = some (.int .u8 (fst a.toNat)) := by
        have := first_at a.toNat a.toNat_lt
        rw [List.getElem?_drop] at this
        exact this
      have hlen : gl0.length = 256 := first_len
      have hlen1 : gl1.length = 32 := acc_len
      obtain ⟨hK, h7, hd⟩ := fst_tab a.toNat hb
      have hlo : gl1[fst a.toNat / 16 * 2]? = some (.int .u8 (lo a.toNat)) := (acc_at _ hK).1
      have hhi : gl1[fst a.toNat / 16 * 2 + 1]? = some (.int .u8 (hi a.toNat)) := (acc_at _ hK).2
      have e1 : (q[0]?.getD 0).toNat = at' (a :: q) 1 := by simp [at', List.getD_eq_getElem?_getD]
      have e2 : (q[1]?.getD 0).toNat = at' (a :: q) 2 := by simp [at', List.getD_eq_getElem?_getD]
      have e3 : (q[2]?.getD 0).toNat = at' (a :: q) 3 := by simp [at', List.getD_eq_getElem?_getD]
      generalize hKK : fst a.toNat / 16 = K at hK hd hlo hhi
      have htk : List.take 2 (List.drop (K * 2) gl1) = [.int .u8 (lo a.toNat), .int .u8 (hi a.toNat)] := by
        apply List.ext_getElem?
        intro j
        rw [List.getElem?_take]
        match j with
        | 0 => simp [hlo]
        | 1 => simp [hhi]
        | j + 2 => rw [if_neg (by omega)]; simp
      have hr : (a :: q) ≠ [] := by simp
      have hcase : (a.toNat < 194 ∨ 245 ≤ a.toNat) ∨ (194 ≤ a.toNat ∧ a.toNat < 224) ∨ (224 ≤ a.toNat ∧ a.toNat < 240) ∨ (240 ≤ a.toNat ∧ a.toNat < 245) := by omega
      rcases hcase with hcs | hcs | hcs | hcs
      · rw [kind1 _ hb (by omega) hcs] at h7
        have hn := valid_no (a :: q) hr (bad1 _ (by omega) (by omega))
        rw [hv] at hn
        simp [ha', hf, hlen, hlen1, h7, hd, htk, hlo, hhi]
        exact ⟨by omega, by omega, by omega, by omega, hn⟩
      · obtain ⟨k1, k2, k3⟩ := kind2 _ hb hcs.1 hcs.2
        rw [k1] at h7
        have hm := two (a :: q) (by omega)
        have hlen2 : (a :: q).length = q.length + 1 := rfl
        by_cases g0 : (q.length : Int) + 1 < 2
        · have hn := valid_no (a :: q) hr (hm.2 (by omega))
          rw [hv] at hn
          simp [ha', hf, hlen, hlen1, h7, hd, htk, hlo, hhi, e1, e2, e3, g0]
          first | exact hn | (refine ⟨by omega, by omega, by omega, by omega, ?_⟩; first | exact hn | (refine ⟨by omega, ?_⟩; first | exact hn | (refine ⟨by omega, ?_⟩; first | exact hn | (refine ⟨by omega, ?_⟩; exact hn))))
        · by_cases g1 : (at' (a :: q) 1 : Int) < lo a.toNat
          · have hn := valid_no (a :: q) hr (hm.2 (by omega))
            rw [hv] at hn
            simp [ha', hf, hlen, hlen1, h7, hd, htk, hlo, hhi, e1, e2, e3, g0, g1]
            first | exact hn | (refine ⟨by omega, by omega, by omega, by omega, ?_⟩; first | exact hn | (refine ⟨by omega, ?_⟩; first | exact hn | (refine ⟨by omega, ?_⟩; first | exact hn | (refine ⟨by omega, ?_⟩; exact hn))))
          · by_cases g2 : (hi a.toNat : Int) < at' (a :: q) 1
            · have hn := valid_no (a :: q) hr (hm.2 (by omega))
              rw [hv] at hn
              simp [ha', hf, hlen, hlen1, h7, hd, htk, hlo, hhi, e1, e2, e3, g0, g1, g2]
              first | exact hn | (refine ⟨by omega, by omega, by omega, by omega, ?_⟩; first | exact hn | (refine ⟨by omega, ?_⟩; first | exact hn | (refine ⟨by omega, ?_⟩; first | exact hn | (refine ⟨by omega, ?_⟩; exact hn))))
            · have hk := hm.1 (by omega)
              have hn := valid_k (a :: q) hr 2 hk.1 hk.2
              rw [hv] at hn
              simp [ha', hf, hlen, hlen1, h7, hd, htk, hlo, hhi, e1, e2, e3, g0, g1, g2]
              simp at hn
              repeat (first | exact ⟨⟨hn.symm, by omega⟩, by omega⟩ | refine ⟨by omega, ?_⟩)
      · obtain ⟨k1, k2, k3⟩ := kind3 _ hb hcs.1 hcs.2
        rw [k1] at h7
        have hm := three (a :: q) (by omega) _ _ k2 k3
        have hlen2 : (a :: q).length = q.length + 1 := rfl
        by_cases g0 : (q.length : Int) + 1 < 3
        · have hn := valid_no (a :: q) hr (hm.2 (by omega))
          rw [hv] at hn
          simp [ha', hf, hlen, hlen1, h7, hd, htk, hlo, hhi, e1, e2, e3, g0]
          first | exact hn | (refine ⟨by omega, by omega, by omega, by omega, ?_⟩; first | exact hn | (refine ⟨by omega, ?_⟩; first | exact hn | (refine ⟨by omega, ?_⟩; first | exact hn | (refine ⟨by omega, ?_⟩; exact hn))))
        · by_cases g1 : (at' (a :: q) 1 : Int) < lo a.toNat
          · have hn := valid_no (a :: q) hr (hm.2 (by omega))
            rw [hv] at hn
            simp [ha', hf, hlen, hlen1, h7, hd, htk, hlo, hhi, e1, e2, e3, g0, g1]
            first | exact hn | (refine ⟨by omega, by omega, by omega, by omega, ?_⟩; first | exact hn | (refine ⟨by omega, ?_⟩; first | exact hn | (refine ⟨by omega, ?_⟩; first | exact hn | (refine ⟨by omega, ?_⟩; exact hn))))
          · by_cases g2 : (hi a.toNat : Int) < at' (a :: q) 1
            · have hn := valid_no (a :: q) hr (hm.2 (by omega))
              rw [hv] at hn
              simp [ha', hf, hlen, hlen1, h7, hd, htk, hlo, hhi, e1, e2, e3, g0, g1, g2]
              first | exact hn | (refine ⟨by omega, by omega, by omega, by omega, ?_⟩; first | exact hn | (refine ⟨by omega, ?_⟩; first | exact hn | (refine ⟨by omega, ?_⟩; first | exact hn | (refine ⟨by omega, ?_⟩; exact hn))))
            · by_cases g3 : (at' (a :: q) 2 : Int) < 128
              · have hn := valid_no (a :: q) hr (hm.2 (by omega))
                rw [hv] at hn
                simp [ha', hf, hlen, hlen1, h7, hd, htk, hlo, hhi, e1, e2, e3, g0, g1, g2, g3]
                first | exact hn | (refine ⟨by omega, by omega, by omega, by omega, ?_⟩; first | exact hn | (refine ⟨by omega, ?_⟩; first | exact hn | (refine ⟨by omega, ?_⟩; first | exact hn | (refine ⟨by omega, ?_⟩; exact hn))))
              · by_cases g4 : 191 < (at' (a :: q) 2 : Int)
                · have hn := valid_no (a :: q) hr (hm.2 (by omega))
                  rw [hv] at hn
                  simp [ha', hf, hlen, hlen1, h7, hd, htk, hlo, hhi, e1, e2, e3, g0, g1, g2, g3, g4]
                  first | exact hn | (refine ⟨by omega, by omega, by omega, by omega, ?_⟩; first | exact hn | (refine ⟨by omega, ?_⟩; first | exact hn | (refine ⟨by omega, ?_⟩; first | exact hn | (refine ⟨by omega, ?_⟩; exact hn))))
                · have hk := hm.1 (by omega)
                  have hn := valid_k (a :: q) hr 3 hk.1 hk.2
                  rw [hv] at hn
                  simp [ha', hf, hlen, hlen1, h7, hd, htk, hlo, hhi, e1, e2, e3, g0, g1, g2, g3, g4]
                  simp at hn
                  repeat (first | exact ⟨⟨hn.symm, by omega⟩, by omega⟩ | refine ⟨by omega, ?_⟩)
      · obtain ⟨k1, k2, k3⟩ := kind4 _ hb hcs.1 hcs.2
        rw [k1] at h7
        have hm := four (a :: q) (by omega) _ _ k2 k3
        have hlen2 : (a :: q).length = q.length + 1 := rfl
        by_cases g0 : (q.length : Int) + 1 < 4
        · have hn := valid_no (a :: q) hr (hm.2 (by omega))
          rw [hv] at hn
          simp [ha', hf, hlen, hlen1, h7, hd, htk, hlo, hhi, e1, e2, e3, g0]
          first | exact hn | (refine ⟨by omega, by omega, by omega, by omega, ?_⟩; first | exact hn | (refine ⟨by omega, ?_⟩; first | exact hn | (refine ⟨by omega, ?_⟩; first | exact hn | (refine ⟨by omega, ?_⟩; exact hn))))
        · by_cases g1 : (at' (a :: q) 1 : Int) < lo a.toNat
          · have hn := valid_no (a :: q) hr (hm.2 (by omega))
            rw [hv] at hn
            simp [ha', hf, hlen, hlen1, h7, hd, htk, hlo, hhi, e1, e2, e3, g0, g1]
            first | exact hn | (refine ⟨by omega, by omega, by omega, by omega, ?_⟩; first | exact hn | (refine ⟨by omega, ?_⟩; first | exact hn | (refine ⟨by omega, ?_⟩; first | exact hn | (refine ⟨by omega, ?_⟩; exact hn))))
          · by_cases g2 : (hi a.toNat : Int) < at' (a :: q) 1
            · have hn := valid_no (a :: q) hr (hm.2 (by omega))
              rw [hv] at hn
              simp [ha', hf, hlen, hlen1, h7, hd, htk, hlo, hhi, e1, e2, e3, g0, g1, g2]
              first | exact hn | (refine ⟨by omega, by omega, by omega, by omega, ?_⟩; first | exact hn | (refine ⟨by omega, ?_⟩; first | exact hn | (refine ⟨by omega, ?_⟩; first | exact hn | (refine ⟨by omega, ?_⟩; exact hn))))
            · by_cases g3 : (at' (a :: q) 2 : Int) < 128
              · have hn := valid_no (a :: q) hr (hm.2 (by omega))
                rw [hv] at hn
                simp [ha', hf, hlen, hlen1, h7, hd, htk, hlo, hhi, e1, e2, e3, g0, g1, g2, g3]
                first | exact hn | (refine ⟨by omega, by omega, by omega, by omega, ?_⟩; first | exact hn | (refine ⟨by omega, ?_⟩; first | exact hn | (refine ⟨by omega, ?_⟩; first | exact hn | (refine ⟨by omega, ?_⟩; exact hn))))
              · by_cases g4 : 191 < (at' (a :: q) 2 : Int)
                · have hn := valid_no (a :: q) hr (hm.2 (by omega))
                  rw [hv] at hn
                  simp [ha', hf, hlen, hlen1, h7, hd, htk, hlo, hhi, e1, e2, e3, g0, g1, g2, g3, g4]
                  first | exact hn | (refine ⟨by omega, by omega, by omega, by omega, ?_⟩; first | exact hn | (refine ⟨by omega, ?_⟩; first | exact hn | (refine ⟨by omega, ?_⟩; first | exact hn | (refine ⟨by omega, ?_⟩; exact hn))))
                · by_cases g5 : (at' (a :: q) 3 : Int) < 128
                  · have hn := valid_no (a :: q) hr (hm.2 (by omega))
                    rw [hv] at hn
                    simp [ha', hf, hlen, hlen1, h7, hd, htk, hlo, hhi, e1, e2, e3, g0, g1, g2, g3, g4, g5]
                    first | exact hn | (refine ⟨by omega, by omega, by omega, by omega, ?_⟩; first | exact hn | (refine ⟨by omega, ?_⟩; first | exact hn | (refine ⟨by omega, ?_⟩; first | exact hn | (refine ⟨by omega, ?_⟩; exact hn))))
                  · by_cases g6 : 191 < (at' (a :: q) 3 : Int)
                    · have hn := valid_no (a :: q) hr (hm.2 (by omega))
                      rw [hv] at hn
                      simp [ha', hf, hlen, hlen1, h7, hd, htk, hlo, hhi, e1, e2, e3, g0, g1, g2, g3, g4, g5, g6]
                      first | exact hn | (refine ⟨by omega, by omega, by omega, by omega, ?_⟩; first | exact hn | (refine ⟨by omega, ?_⟩; first | exact hn | (refine ⟨by omega, ?_⟩; first | exact hn | (refine ⟨by omega, ?_⟩; exact hn))))
                    · have hk := hm.1 (by omega)
                      have hn := valid_k (a :: q) hr 4 hk.1 hk.2
                      rw [hv] at hn
                      simp [ha', hf, hlen, hlen1, h7, hd, htk, hlo, hhi, e1, e2, e3, g0, g1, g2, g3, g4, g5, g6]
                      simp at hn
                      repeat (first | exact ⟨⟨hn.symm, by omega⟩, by omega⟩ | refine ⟨by omega, ?_⟩)
noncomputable def T25 : Tab := tabAdd T34 25 (fun z : (List UInt8) => z.length ≤ 1000000) (fun z => [.str z]) (fun z => .bool (validL z))
@[simp] theorem T25_eq (l : List UInt8) (h : l.length ≤ 1000000) : T25 25 [.str l] = some (.bool (validL l)) := tabAdd_eq (a := l) (by simp +contextual [Int.natCast_inj]) h rfl
@[simp] theorem T25_ne {g : Nat} {xs : List AV} (h : g ≠ 25) : T25 g xs = T34 g xs := tabAdd_ne h
theorem T25_ok : Sound Tryd.prog T25 := tabAdd_sound T34_ok fun z h => pf25 z h
end Go.Proofs.YtbinejcnoogoiaaDoor

