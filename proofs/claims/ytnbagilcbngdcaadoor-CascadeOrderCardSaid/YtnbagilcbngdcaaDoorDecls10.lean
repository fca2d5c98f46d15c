/- Layer 10: rows of declarations; is each of a property? -/
import Derived.Test.YtnbagilcbngdcaaDoorRefSet10L
import Derived.Test.YtnbagilcbngdcaaDoorSet10L
import Derived.Test.YtnbagilcbngdcaaDoorRow
import Derived.Test.YtnbagilcbngdcaaDoorRefProp
namespace Go.Proofs.YtnbagilcbngdcaaDoor
open Go.RowKit
set_option linter.unusedSimpArgs false
set_option linter.unusedVariables false
set_option maxHeartbeats 2000000
theorem set_any (s : Sty) (wr di q p : Int) (v : ByteArray) (w : World) (hn : v.size ≤ 140737488355328) (hp : Pow w) (ht : Tab w) (hl : Logical p) (hm : mapS wr di q = (p, 0)) :
    Calls Tryd.prog 38 #[s.V, modeV wr di, .agg #[.int .i64 q, .string v]] w fun e w' => ∃ t ok, e = .returned (.tuple #[Sty.V t, .bool ok]) ∧ Sets (setS di s p v) t ok ∧ Kept w w' := by
  rcases hl with rfl | rfl | rfl | rfl | rfl | rfl | rfl | rfl | rfl | rfl | rfl | rfl | rfl | rfl | rfl | rfl | rfl | rfl | rfl
  · exact set_0 s wr di q v w hn hp ht hm
  · exact set_1 s wr di q v w hn hp ht hm
  · exact set_4 s wr di q v w hn hp ht hm
  · exact set_5 s wr di q v w hn hp ht hm
  · exact set_6 s wr di q v w hn hp ht hm
  · exact set_7 s wr di q v w hn hp ht hm
  · exact set_8 s wr di q v w hn hp ht hm
  · exact set_9 s wr di q v w hn hp ht hm
  · exact set_14 s wr di q v w hn hp ht hm
  · exact set_15 s wr di q v w hn hp ht hm
  · exact set_16 s wr di q v w hn hp ht hm
  · exact set_17 s wr di q v w hn hp ht hm
  · exact set_22 s wr di q v w hn hp ht hm
  · exact set_23 s wr di q v w hn hp ht hm
  · exact set_24 s wr di q v w hn hp ht hm
  · exact set_25 s wr di q v w hn hp ht hm
  · exact set_26 s wr di q v w hn hp ht hm
  · exact set_27 s wr di q v w hn hp ht hm
  · exact set_28 s wr di q v w hn hp ht hm
theorem refSet_any (s : Sty) (wr di p : Int) (v : ByteArray) (w : World) (hn : v.size ≤ 140737488355328) (hl : Logical p) (hd : di = 0 ∨ di = 1) :
    Calls Tryd.prog 41 #[modeV wr di, s.V, .int .i64 p, .string v] w fun e w' => ∃ t ok, e = .returned (.tuple #[Sty.V t, .bool ok]) ∧ Sets (setS di s p v) t ok ∧ Kept w w' := by
  rcases hl with rfl | rfl | rfl | rfl | rfl | rfl | rfl | rfl | rfl | rfl | rfl | rfl | rfl | rfl | rfl | rfl | rfl | rfl | rfl
  · exact refSet_0 s wr di v w hn
  · exact refSet_1 s wr di v w hn
  · exact refSet_4 s wr di v w hn
  · exact refSet_5 s wr di v w hn
  · exact refSet_6 s wr di v w hn
  · exact refSet_7 s wr di v w hn
  · exact refSet_8 s wr di v w hn
  · exact refSet_9 s wr di v w hn
  · exact refSet_14 s wr di v w hn
  · exact refSet_15 s wr di v w hn
  · exact refSet_16 s wr di v w hn
  · exact refSet_17 s wr di v w hn
  · exact refSet_22 s wr di v w hn
  · exact refSet_23 s wr di v w hn
  · exact refSet_24 s wr di v w hn
  · exact refSet_25 s wr di v w hn hd
  · exact refSet_26 s wr di v w hn
  · exact refSet_27 s wr di v w hn
  · exact refSet_28 s wr di v w hn
/-- the cells of declarations -/
def declC (P : Nat → Int) (T : Nat → ByteArray) (i j : Nat) : Value := if j = 0 then .int .i64 (P i) else .string (T i)
theorem propName_err (p : Int) : ∃ x E, (∀ w, TabN w → Calls Tryd.prog 35 #[.int .i64 p] w fun e w' => e = .returned (.tuple #[.string x, .int .i64 E]) ∧ Kept w w') ∧ (!(E == 0)) = !inB 0 28 p := by
  cases h : inB 0 28 p with
  | false => exact ⟨_, _, fun w ht => propName_no p h w, rfl⟩
  | true =>
    obtain ⟨k, rfl⟩ := Int.eq_ofNat_of_zero_le (inB_true.1 h).1
    exact ⟨_, _, fun w ht => propName_at k (by have := (inB_true.1 h).2; omega) w ht, rfl⟩
theorem oddDecl_any (p : Int) (v : ByteArray) (w : World) (ht : TabN w) :
    Calls Tryd.prog 34 #[.agg #[.int .i64 p, .string v]] w fun e w' => e = .returned (.bool (!inB 0 28 p)) ∧ Kept w w' := by
  obtain ⟨x, E, H, hE⟩ := propName_err p
  rw [← hE]
  have H2 := Lib.hid H
  clear H hE
  have hk : Kept w w := Kept.refl w
  go_enter Tryd.func34, Tryd.ntmps34
  go_wp2_with fail
  refine with_boxes1 ?_
  intro X hX d
  have hsz := hk.size
  replace hk := hk.trans hX
  clear hX
  replace d_l := d.lt
  replace d_0 := d.at 0 _ rfl
  replace d_1 := d.at 1 _ rfl
  refine (H2.out _ (ht.kept hk)).mono ?_
  rintro e w1 ⟨rfl, hn⟩
  replace hk := hk.trans hn
  replace d := d.kept hn
  clear hn
  replace d_l := d.lt
  replace d_0 := d.at 0 _ rfl
  replace d_1 := d.at 1 _ rfl
  go_wp2
  go_ret
  exact ⟨rfl, hk⟩
def FirstOddD (P : Nat → Int) (n : Nat) (w : World) (e : Ending) (w' : World) : Prop :=
  ∃ z : Int, e = .returned (.int .i64 z) ∧ (0 ≤ z ↔ propsB P n = false) ∧ -1 ≤ z ∧ Kept w w'
theorem indexDecls_any (o : Option Addr) (n cap : Nat) (P : Nat → Int) (T : Nat → ByteArray) (w : World) (hv : RV 2 w (.slice o n cap) n (declC P T)) (hn : n ≤ 4611686018427387904) (ht : TabN w) :
    Calls Tryd.prog 54 #[.slice o n cap, .func (.func 34) #[] #[]] w (FirstOddD P n w) := by
  have HV := Lib.hid hv
  go_enter Tryd.func54, Tryd.ntmps54
  go_wp2
  go_loopw [4, 5, 8] (fun _ _ i wx => ∃ k : Nat, k ≤ n ∧ i = .int .i64 k ∧ Kept w wx ∧ propsB P k = true) (fun _ _ i _ => n - (intOf i).toNat)
  case atStart => exact ⟨0, Nat.zero_le _, rfl, Kept.refl _, rfl⟩
  case round =>
    obtain ⟨k, hk4, rfl, hk, hal⟩ := hrel
    have hal' := Lib.hid hal
    clear hal
    by_cases hlt : k < n
    · have hi1 : (k : Int) < (n : Int) := by omega
      obtain ⟨b, off, rfl, hle, hrow⟩ := (HV.out.kept hk).row (by omega)
      have c0 : wr.cell? ⟨b, off + k * 2, none⟩ = some (.int .i64 (P k)) := hrow k 0 hlt (by decide)
      have c1 : wr.cell? ⟨b, off + k * 2 + 1, none⟩ = some (.string (T k)) := hrow k 1 hlt (by decide)
      clear hrow
      cases hb : inB 0 28 (P k)
      · have hno := Lib.hid (propsB_no hlt hb)
        go_wp2_with fail
        refine (oddDecl_any (P k) (T k) _ (ht.kept hk)).mono ?_
        rintro e w1 ⟨rfl, hn1⟩
        go_wp2
        go_ret
        exact ⟨_, rfl, ⟨fun _ => hno.out, fun _ => by omega⟩, by omega, hk.trans hn1⟩
      · have hyes := Lib.hid (show propsB P (k + 1) = true by unfold propsB; rw [hal'.out, hb]; rfl)
        go_wp2_with fail
        refine (oddDecl_any (P k) (T k) _ (ht.kept hk)).mono ?_
        rintro e w1 ⟨rfl, hn1⟩
        go_wp2
        go_roundw
        case rel => exact ⟨k + 1, by omega, by go_num, hk.trans hn1, hyes.out⟩
        case measure => simp [intOf]; omega
    · obtain rfl : k = n := by omega
      go_wp2
      go_ret
      exact ⟨_, rfl, ⟨fun h => by omega, fun h => by rw [hal'.out] at h; cases h⟩, by omega, hk⟩
theorem containsDecls_any (o : Option Addr) (n cap : Nat) (P : Nat → Int) (T : Nat → ByteArray) (w : World) (hv : RV 2 w (.slice o n cap) n (declC P T)) (hn : n ≤ 4611686018427387904) (ht : TabN w) :
    Calls Tryd.prog 37 #[.slice o n cap, .func (.func 34) #[] #[]] w fun e w' => e = .returned (.bool (!propsB P n)) ∧ Kept w w' := by
  have hk : Kept w w := Kept.refl w
  go_enter Tryd.func37, Tryd.ntmps37
  go_wp2_with fail
  refine (indexDecls_any o n cap P T _ hv hn ht).mono ?_
  rintro e w1 ⟨z, rfl, hz, z1, hn1⟩
  have Hz := Lib.hid hz
  clear hz
  rcases Int.lt_or_le z 0 with hl | hl
  all_goals
    go_wp2
    go_ret
    refine ⟨ret_bool ?_, hn1⟩
    cases ha : propsB P n
    · have := Hz.out.2 ha
      first | omega | simp
    · first | (have := Hz.out.1 hl; rw [ha] at this; cases this) | (simp; omega)
end Go.Proofs.YtnbagilcbngdcaaDoor
