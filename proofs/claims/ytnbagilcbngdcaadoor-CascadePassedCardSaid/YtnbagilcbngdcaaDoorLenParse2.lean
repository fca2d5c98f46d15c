/- Layer 8: length.Parse, any text. -/
import Derived.Test.YtnbagilcbngdcaaDoorLenParse
namespace Go.Proofs.YtnbagilcbngdcaaDoor
open Go.RowKit
set_option linter.unusedSimpArgs false
set_option linter.unusedVariables false
set_option maxHeartbeats 2000000
def autoB (s : ByteArray) : Bool := s.toList == [97, 117, 116, 111]
def candS (s : ByteArray) : Int × Int := if autoB s = true then (0, 0) else (if pctB s = true then 2 else 1, numS (cutS s))
def checkS (s : ByteArray) (x : Int × Int) : (Int × Int) × Int := if lenB x.1 x.2 = true ∧ ((lenT x.1 x.2).toList == s.toList) = true then (x, 0) else ((0, 0), 800)
def parseS (s : ByteArray) : (Int × Int) × Int := checkS s (candS s)
abbrev parsedV (r : (Int × Int) × Int) : Value := .tuple #[lenV r.1.1 r.1.2, .int .i64 r.2]
theorem lenParse_auto (s : ByteArray) (w : World) (hs : (s.toList == [97, 117, 116, 111]) = true) (hp : Pow w) :
    Calls Tryd.prog 14 #[.string s] w fun e w' => e = .returned (.tuple #[lenV 0 0, .int .i64 0]) ∧ Kept w w' := by
  have HS := Lib.hid (fun wx (hx : Pow wx) => (show Calls Tryd.prog 12 #[lenV 0 0] wx fun e w' => e = .returned (.tuple #[.string ⟨#[97, 117, 116, 111]⟩, .int .i64 0]) ∧ Kept wx w' from lenShow_any 0 0 wx hx))
  have h1 : (s.toList = [97, 117, 116, 111]) := by simpa using hs
  have hT : (([97, 117, 116, 111] : List UInt8) == s.toList) = true := by rw [h1]; rfl
  have Hs := Lib.hid (rfl : s = s)
  clear h1
  have hk : Kept w w := Kept.refl w
  go_enter Tryd.func14, Tryd.ntmps14
  go_wp2_with fail
  refine with_boxes2 ?_
  intro X hX o x
  have hsz := hk.size
  replace hk := hk.trans hX
  clear hX
  refine (HS.out _ (hp.kept hk)).mono ?_
  rintro e w1 ⟨rfl, hn⟩
  replace hk := hk.trans hn
  replace o := o.kept hn
  replace x := x.kept hn
  clear hn
  replace o_l := o.lt
  replace o_0 := o.at 0 _ rfl
  replace o_f0 := o.free 0
  replace o_1 := o.at 1 _ rfl
  replace o_f1 := o.free 1
  replace x_l := x.lt
  replace x_0 := x.at 0 _ rfl
  replace x_f0 := x.free 0
  replace x_1 := x.at 1 _ rfl
  replace x_f1 := x.free 1
  go_wp2
  exact bodyPost_ret (v := .tuple #[lenV 0 0, .int .i64 0]) (by simp [results, Tryd.results14, go_sem, o_0, o_1, x_0, x_1, o_l, x_l]) rfl ⟨by first | (rw [Hs.out]; done) | rfl, (by first | ((repeat (first | with_reducible exact hk | with_reducible refine Kept.alloc ?_ _ | with_reducible refine Kept.drew ?_ | with_reducible refine Kept.drewN ?_ _ | with_reducible refine Kept.set ?_ (by first | (simp; done) | (simp; omega) | omega) _)); done) | exact hk | exact (hk.alloc _) | exact ((hk.alloc _).alloc _) | exact (((hk.alloc _).alloc _).alloc _) | exact ((((hk.alloc _).alloc _).alloc _).alloc _) | exact (((((hk.alloc _).alloc _).alloc _).alloc _).alloc _) | exact ((((((hk.alloc _).alloc _).alloc _).alloc _).alloc _).alloc _) | (repeat (first | exact hk | refine Kept.alloc ?_ _ | refine Kept.drew ?_ | refine Kept.drewN ?_ _ | refine Kept.set ?_ (by first | (simp; done) | (simp; omega) | omega) _)))⟩
theorem lenParse_any (s : ByteArray) (w : World) (hn : s.size ≤ 140737488355328) (hp : Pow w) :
    Calls Tryd.prog 14 #[.string s] w fun e w' => e = .returned (parsedV (parseS s)) ∧ Kept w w' := by
  cases ha : autoB s with
  | true =>
    have h1 : (s.toList = [97, 117, 116, 111]) := by unfold autoB at ha; simpa using ha
    have e : parseS s = ((0, 0), 0) := by
      unfold parseS candS
      rw [if_pos ha]
      exact if_pos ⟨rfl, by rw [h1]; decide +kernel⟩
    rw [e]
    exact lenParse_auto s w ha hp
  | false =>
    have HN := Lib.hid (fun wx => number_any (cutS s) wx)
    have ec : candS s = (if pctB s = true then 2 else 1, numS (cutS s)) := if_neg (by rw [ha]; decide)
    have HC := Lib.hid (fun wx => cutSuffix_any s hn wx)
    have HS := Lib.hid (fun k v wx (hx : Kept w wx) => lenShow_any k v wx (hp.kept hx))
    unfold parseS
    rw [ec]
    generalize numS (cutS s) = v at *
    generalize cutS s = t at *
    cases hpc : pctB s with
    | true =>
      rw [hpc] at HC
      rw [if_pos rfl]
      cases hb : lenB 2 v with
      | false =>
        rw [show checkS s (2, v) = ((0, 0), 800) from if_neg (fun h => by rw [hb] at h; cases h.1)]
        exact lenParse_1bad s t _ v w ha HC HN (Lib.hid fun wx hx => by have := HS.out 2 v wx hx; rw [show showS 2 v = (⟨#[]⟩, 800) from if_neg (by rw [hb]; decide)] at this; exact this)
      | true =>
        have HS2 := Lib.hid fun wx hx => (by have := HS.out 2 v wx hx; rw [show showS 2 v = (lenT 2 v, 0) from if_pos hb] at this; exact this : Calls Tryd.prog 12 #[lenV 2 v] wx fun e w' => e = .returned (.tuple #[.string (lenT 2 v), .int .i64 0]) ∧ Kept wx w')
        cases hT : ((lenT 2 v).toList == s.toList) with
        | true =>
          rw [show checkS s (2, v) = ((2, v), 0) from if_pos ⟨hb, hT⟩]
          exact lenParse_1same s t _ v w ha HC HN HS2 hT
        | false =>
          rw [show checkS s (2, v) = ((0, 0), 800) from if_neg (fun h => by rw [hT] at h; cases h.2)]
          exact lenParse_1diff s t _ v w ha HC HN HS2 hT
    | false =>
      rw [hpc] at HC
      rw [if_neg (by decide)]
      cases hb : lenB 1 v with
      | false =>
        rw [show checkS s (1, v) = ((0, 0), 800) from if_neg (fun h => by rw [hb] at h; cases h.1)]
        exact lenParse_0bad s t _ v w ha HC HN (Lib.hid fun wx hx => by have := HS.out 1 v wx hx; rw [show showS 1 v = (⟨#[]⟩, 800) from if_neg (by rw [hb]; decide)] at this; exact this)
      | true =>
        have HS2 := Lib.hid fun wx hx => (by have := HS.out 1 v wx hx; rw [show showS 1 v = (lenT 1 v, 0) from if_pos hb] at this; exact this : Calls Tryd.prog 12 #[lenV 1 v] wx fun e w' => e = .returned (.tuple #[.string (lenT 1 v), .int .i64 0]) ∧ Kept wx w')
        cases hT : ((lenT 1 v).toList == s.toList) with
        | true =>
          rw [show checkS s (1, v) = ((1, v), 0) from if_pos ⟨hb, hT⟩]
          exact lenParse_0same s t _ v w ha HC HN HS2 hT
        | false =>
          rw [show checkS s (1, v) = ((0, 0), 800) from if_neg (fun h => by rw [hT] at h; cases h.2)]
          exact lenParse_0diff s t _ v w ha HC HN HS2 hT
end Go.Proofs.YtnbagilcbngdcaaDoor
