/- Layer 4: a text's width is that of its parts. -/
import Derived.Test.YtjehmhgafibgbaaWidth
import Derived.Test.YtjehmhgafibgbaaMask
import Derived.Lib.ConvBytes
import Derived.Laws.BytesString
import Derived.Lib.Strings
import Derived.Lib.IndexBytes
import Derived.Deep.RegionHeld3
namespace Go.Proofs.Ytjehmhgafibgbaa
open Go.RowKit
set_option linter.unusedSimpArgs false
set_option linter.unusedVariables false
theorem byte_and (v : Int) (h0 : 0 ≤ v) (h1 : v ≤ 255) : bits .and .u8 v 127 = v % 128 := by
  have key : ∀ k : Fin 256, bits .and .u8 (k.val : Int) 127 = (k.val : Int) % 128 := by decide +kernel
  have := key ⟨v.toNat, by omega⟩
  rwa [show ((⟨v.toNat, by omega⟩ : Fin 256).val : Int) = v from Int.toNat_of_nonneg h0] at this
/-- a text of these bytes -/
def pushAll (ns : List Int) : ByteArray := ns.foldl (fun r n => r.push (UInt8.ofNat n.toNat)) ByteArray.empty
theorem push_data (ns : List Int) : ∀ r : ByteArray, (ns.foldl (fun r n => r.push (UInt8.ofNat n.toNat)) r).data.toList = r.data.toList ++ ns.map fun n => UInt8.ofNat n.toNat := by
  induction ns with
  | nil => intro r; simp
  | cons a ns ih =>
    intro r
    rw [List.foldl_cons, ih]
    show (r.data.push _).toList ++ _ = _
    simp
theorem pushAll_data (ns : List Int) : (pushAll ns).data.toList = ns.map fun n => UInt8.ofNat n.toNat := by
  unfold pushAll
  rw [push_data]; rfl
theorem pushAll_size (ns : List Int) : (pushAll ns).size = ns.length := by
  show (pushAll ns).data.size = _
  rw [← Array.length_toList, pushAll_data, List.length_map]
theorem bytes_ext {a b : ByteArray} (h : a.data.toList = b.data.toList) : a = b := by
  obtain ⟨x⟩ := a
  obtain ⟨y⟩ := b
  have : x = y := Array.toList_inj.1 h
  rw [this]
theorem pushAll_head (ns : List Int) (k : Nat) : (pushAll ns).extract 0 k = pushAll (ns.take k) := bytes_ext (by
  rw [Lib.extract_data, pushAll_data, pushAll_data]; simp [List.map_take])
theorem pushAll_tail (ns : List Int) (k : Nat) : (pushAll ns).extract k (pushAll ns).size = pushAll (ns.drop k) := bytes_ext (by
  rw [Lib.extract_to_end, pushAll_data, pushAll_data]; simp [List.map_drop])
def sumW (ns : List Int) : Int := (ns.map advS).sum
theorem advS_bounds (r : Int) : 0 ≤ advS r ∧ advS r ≤ 1024 := by unfold advS; (repeat' split) <;> omega
theorem sumW_bounds (ns : List Int) : 0 ≤ sumW ns ∧ sumW ns ≤ 1024 * (ns.length : Int) := by
  induction ns with
  | nil => simp [sumW]
  | cons a ns ih =>
    have := advS_bounds a
    simp only [sumW, List.map_cons, List.sum_cons, List.length_cons] at ih ⊢
    omega
theorem sumW_append (a b : List Int) : sumW (a ++ b) = sumW a + sumW b := by simp [sumW]
theorem width_take (ns : List Int) (hs : ∀ a ∈ ns, 0 ≤ a ∧ a ≤ 127) (hl : ns.length ≤ 1125899906842624) : ∀ k, k ≤ ns.length → widthS (pushAll (ns.take k)) = sumW (ns.take k) := by
  intro k
  induction k with
  | zero => intro _; simp [pushAll, sumW]; rfl
  | succ k ih =>
    intro hk
    have h1 := ih (by omega)
    have hkl : k < ns.length := by omega
    have hb := hs ns[k] (List.getElem_mem hkl)
    have hs2 := sumW_bounds (ns.take k)
    have ha := advS_bounds ns[k]
    rw [List.length_take] at hs2
    rw [List.take_succ_eq_append_getElem hkl, sumW_append]
    have hp : pushAll (ns.take k ++ [ns[k]]) = (pushAll (ns.take k)).push (UInt8.ofNat (ns[k]).toNat) := by unfold pushAll; rw [List.foldl_append]; rfl
    have hn : (UInt8.ofNat (ns[k]).toNat).toNat = (ns[k]).toNat := by simp; omega
    rw [hp, width_push (by rw [hn]; omega), hn, if_pos (by omega), h1]
    rw [show (((ns[k]).toNat : Nat) : Int) = ns[k] from Int.toNat_of_nonneg hb.1]
    have hsum : sumW [ns[k]] = advS ns[k] := by simp [sumW]
    rw [hsum]
    unfold wrap64
    omega
theorem width_all (ns : List Int) (hs : ∀ a ∈ ns, 0 ≤ a ∧ a ≤ 127) (hl : ns.length ≤ 1125899906842624) : widthS (pushAll ns) = sumW ns := by
  have := width_take ns hs hl ns.length (Nat.le_refl _)
  rwa [List.take_length] at this
theorem urest_big (a n : Int) (hn : 1 ≤ n) (hn' : n ≤ 9223372036854775807) : ∃ i, wrap64 ((IntKind.u64.wrap a).tmod n) = i ∧ 0 ≤ i ∧ i < n := by
  have h0 : 0 ≤ IntKind.u64.wrap a := by rw [IntKind.wrap_u64]; omega
  have h1 : (IntKind.u64.wrap a).tmod n = IntKind.u64.wrap a % n := Int.tmod_eq_emod_of_nonneg h0
  have h2 := Int.emod_nonneg (IntKind.u64.wrap a) (show n ≠ 0 by omega)
  have h3 := Int.emod_lt_of_pos (IntKind.u64.wrap a) (show 0 < n by omega)
  refine ⟨IntKind.u64.wrap a % n, ?_, h2, h3⟩
  rw [h1]; unfold wrap64; omega
theorem string_back (w : World) (g n cap : Nat) (f : Nat → Int) (hc : ∀ j, j < n → w.cell? ⟨g, j, none⟩ = some (.int .u8 (f j))) :
    (convert 23 9 (.slice (some ⟨g, 0, none⟩) n cap)).run Try.prog w = .ok (.string (pushAll ((List.range n).map f))) w := by
  rw [run_convert_bytes_string w 23 9 5 _ _ _ Try.underlying23 Try.underlying5 Try.underlying9]
  have h := run_loadCells (P := Try.prog) (w := w) ⟨g, 0, none⟩ n (fun j => .int .u8 (f j)) (fun j hj => by
    have e : ((⟨g, 0, none⟩ : Addr).add j) = ⟨g, j, none⟩ := by
      unfold Addr.add
      by_cases h : j = 0
      · subst h; rfl
      · rw [if_neg h]; simp
    rw [e]; exact hc j hj)
  exact run_bytesToString w _ n cap ((List.range n).map f) (by simpa [List.map_map, Function.comp_def] using h)
/-- the bytes of a text -/
def sv (s : ByteArray) (j : Nat) : Int := (s.data.toList.getD j 0).toNat
theorem sv_bounds (s : ByteArray) (j : Nat) : 0 ≤ sv s j ∧ sv s j ≤ 255 := by
  unfold sv
  have := (s.data.toList.getD j 0).toNat_lt
  omega
theorem bytes_kept (w : World) (e : TypeId) (s : ByteArray) : Kept w (Lib.bytesWorld w e s) :=
  ⟨⟨rfl, rfl, rfl, by rw [Lib.bytesWorld_size]; omega, fun j hj => Lib.bytesWorld_at_old w e s j hj⟩⟩
theorem bytes_free (w : World) (e : TypeId) (s : ByteArray) (j : Nat) (hj : j < s.size) : (Lib.bytesWorld w e s).frozen? ⟨w.heap.size, j, none⟩ = false := by
  have hsz : s.size ≤ (Lib.bytesCells w e s).size := by unfold Lib.bytesCells; simp
  unfold World.frozen?
  simp [Lib.bytesWorld_at_new]
  try omega
/-- the bytes, the first k of them with their seven low bits alone -/
def lowTo (s : ByteArray) (k j : Nat) : Int := if j < k then sv s j % 128 else sv s j
set_option maxHeartbeats 2000000 in
theorem glyphParts_walk (s : ByteArray) (a : Int) (hs : s.size ≤ 140737488351232) (w : World) :
    Calls Try.prog 3 #[.string s, .int .i64 a] w fun e w' => e = .returned (.bool true) ∧ Kept w w' := by
  have hk : Kept w w := Kept.refl w
  go_enter Try.func3, Try.ntmps3
  go_wp2_with fail
  refine (awake4_any _).mono ?_
  rintro e w1 ⟨rfl, hn⟩
  replace hk := hk.trans hn
  clear hn
  have hcv := Lib.run_convert_string_bytes (P := Try.prog) w1 9 23 5 s Try.underlying9 Try.underlying23 Try.underlying5
  have hB := Lib.hid (bytes_kept w1 5 s)
  have hC := Lib.hid (fun j (hj : j < s.size) => Lib.bytesWorld_cell w1 5 s j hj)
  have hF := Lib.hid (fun j (hj : j < s.size) => bytes_free w1 5 s j hj)
  obtain ⟨cp, hcp⟩ : ∃ cp, grownCap w1 s.size 0 5 = cp := ⟨_, rfl⟩
  rw [hcp] at hcv
  clear hcp
  go_wp2
  clear hcv
  go_loopw [6] (fun i wx => ∃ k : Nat, k ≤ s.size ∧ i = .int .i64 k ∧ Kept w1 wx ∧ w1.heap.size < wx.heap.size ∧ (∀ j, j < s.size → wx.cell? ⟨w1.heap.size, j, none⟩ = some (.int .u8 (lowTo s k j))) ∧ (∀ j, j < s.size → wx.frozen? ⟨w1.heap.size, j, none⟩ = false)) (fun i _ => s.size - (intOf i).toNat)
  case atStart => exact ⟨0, Nat.zero_le _, rfl, hB.out, by rw [Lib.bytesWorld_size]; omega, fun j hj => by rw [hC.out j hj]; rfl, hF.out⟩
  case round =>
    obtain ⟨k, hks, rfl, hk1, hl, hc, hf⟩ := hrel
    clear hB hC hF
    by_cases hlt : k < s.size
    · have c1 := hc k hlt
      have f1 := hf k hlt
      have hlow : lowTo s k k = sv s k := if_neg (by omega)
      rw [hlow] at c1
      have hb := sv_bounds s k
      have hand := byte_and (sv s k) hb.1 hb.2
      have H := Lib.hid (And.intro hc hf)
      have HV : Hid (lowTo s (k + 1) k = sv s k % 128) := Lib.hid (if_pos (by omega))
      clear hc hf hlow
      generalize sv s k = v at *
      have C1 := Lib.hid c1
      go_wp2
      go_roundw
      case rel =>
        refine ⟨k + 1, by omega, by go_num, hk1.set (Nat.le_refl _) _, by simpa using hl, fun j hj => ?_, fun j hj => by rw [World.frozen?_setCell]; exact H.out.2 j hj⟩
        by_cases hjk : j = k
        · subst hjk
          rw [World.cell?_setCell_same _ _ _ C1.out, HV.out]
        · rw [World.cell?_setCell_other _ _ _ _ (by intro e; injection e with e1 e2 e3; omega), H.out.1 j hj]
          have : lowTo s (k + 1) j = lowTo s k j := by
            unfold lowTo
            by_cases h1 : j < k
            · rw [if_pos h1, if_pos (by omega)]
            · rw [if_neg h1, if_neg (by omega)]
          rw [this]
      case measure => simp [intOf]; omega
    · obtain rfl : k = s.size := by omega
      have hcv := string_back wr w1.heap.size s.size cp (lowTo s s.size) hc
      obtain ⟨n, hn⟩ : ∃ n, s.size = n := ⟨_, rfl⟩
      have hns : ∀ a ∈ (List.range n).map (lowTo s n), 0 ≤ a ∧ a ≤ 127 := by
        intro a ha
        obtain ⟨j, hj, rfl⟩ := List.mem_map.1 ha
        have := sv_bounds s j
        unfold lowTo
        rw [if_pos (List.mem_range.1 hj)]
        omega
      have hlen : ((List.range n).map (lowTo s n)).length = n := by simp
      rw [hn] at hcv hs
      generalize (List.range n).map (lowTo s n) = ns at *
      have hsz := pushAll_size ns
      rw [hlen] at hsz
      obtain ⟨i, hi, i1, i2⟩ := urest_big a ((n : Int) + 1) (by omega) (by omega)
      obtain ⟨q, rfl⟩ := Int.eq_ofNat_of_zero_le i1
      have hqn : q ≤ n := by omega
      have hx := width_all ns hns (by omega)
      have hx1 : widthS ((pushAll ns).extract 0 q) = sumW (ns.take q) := by
        rw [pushAll_head]; exact width_take ns hns (by omega) q (by omega)
      have hx2 : widthS ((pushAll ns).extract q n) = sumW (ns.drop q) := by
        have h := pushAll_tail ns q
        rw [hsz] at h
        rw [h]; exact width_all _ (fun a ha => hns a (List.mem_of_mem_drop ha)) (by rw [List.length_drop]; omega)
      have hsum : sumW (ns.take q) + sumW (ns.drop q) = sumW ns := by rw [← sumW_append, List.take_append_drop]
      have hb0 := sumW_bounds ns
      rw [hlen] at hb0
      have hwx : IntKind.i64.wrap (sumW (ns.take q) + sumW (ns.drop q)) = sumW ns := by rw [hsum]; exact IntWalk.i64_in _ (by omega)
      have hwm : IntKind.i64.wrap (1024 * (n : Int)) = 1024 * (n : Int) := IntWalk.i64_in _ (by omega)
      have hun : IntKind.u64.wrap ((n : Int) + 1) = (n : Int) + 1 := by rw [IntKind.wrap_u64]; omega
      have hn1 : (n : Int) + 1 ≠ 0 := by omega
      rw [hn]
      generalize pushAll ns = t at *
      generalize sumW (ns.take q) = x1 at *
      generalize sumW (ns.drop q) = x2 at *
      generalize sumW ns = x at *
      replace hk := hk.trans hk1
      clear hc hf hns hlen hk1 hl hsum hn hks hlt
      go_wp2_with fail
      refine (glyphWidth_any _ _).mono ?_
      rintro e w1 ⟨rfl, hn⟩
      replace hk := hk.trans hn
      clear hn
      go_wp2_with fail
      have hS : Kept w w1.drew := hk.drew
      clear hk
      go_region_held3 (fun W => Kept w W) (first | exact hS | assumption | exact (‹Kept w _›).trans hn)
        (first
          | (go_at_call 11; refine (glyphWidth_any _ _).mono ?_; rintro e w3 ⟨rfl, hn⟩))
      go_wp2
      go_ret
      exact ⟨rfl, by assumption⟩
end Go.Proofs.Ytjehmhgafibgbaa
