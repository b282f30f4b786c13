/- FrameDraws, for all that it can be called with, returns true. Condition: none. -/
import Derived.Test.YtgkjfhkjgdiodaaSpD
import Derived.ProofKit
import Derived.Test.YtgkjfhkjgdiodaaRows
namespace Go.Proofs.Ytgkjfhkjgdiodaa
open _root_.Go.Proofs.Try
open Go.ChangeShapes Go.WideShapes Go.ChangeAt Go.RowKit Go.Abs
set_option maxRecDepth 100000
theorem k24 : kindsOf prog 9 24 = some [.pl (.int .i64), .pl (.int .i64), .sl [.int .i64]] := by kernel_rfl
theorem k26 : kindsOf prog 9 26 = some [.pl (.int .i64), .pl (.int .i64), .pl (.int .i64)] := by kernel_rfl
theorem laid : laidOutB prog = true := by kernel_rfl
theorem ownNone : ownKnob prog.godebug = none := by kernel_rfl
theorem draws_lifted (os : Os) (started : os.Started) (H : Type) (enc : TypeId × Value → H) :
    ReturnsInHanded {} Try.checked os 11 .any (Rows.frameDrawsSpec.pre6 enc Try.prog Try.f11 Rows.frameDrawsRow.domain false) (Rows.frameDrawsSpec.post enc Try.prog Try.f11 false true false false) := by
  refine returnsInHanded_of_change (C := Try.checked) ownNone started (by kernel_rfl) Try.func11
    (ChangeSpec.witness6 (enc := enc) (C := Try.checked) false ⟨#[], #[.agg #[.int .i64 0, .int .i64 0, .slice none 0 0], .agg #[.int .i64 0, .int .i64 0, .int .i64 0]], []⟩ 8 (by kernel_rfl) (by kernel_rfl) (by kernel_rfl) (by kernel_rfl)) ?_
  intro W base args ds gs before hval0 hW hcnd _
  have hW' := hW
  obtain ⟨p, q, hA0, hV, rfl, hfz, hnd⟩ := hW
  have hA : DataW.TrodAll enc Try.prog W 0 (fun _ => true) true Try.f11.params.toList args.toList ds p := hA0
  rw [Try.params11] at hA
  obtain ⟨v0, v1, d0, d1, p0, p1, rfl, rfl, rfl, h0, h1⟩ := trodAll_two hA
  obtain ⟨rfl, rfl⟩ := trodVars_none hV
  have hlt : ∀ x ∈ p0 ++ p1, x.block < W.heap.size := fun x hx => by simpa using hW'.lt x (by simpa using hx)
  obtain ⟨fu0, hf0⟩ := id h0
  obtain ⟨fu1, hf1⟩ := id h1
  clear hA0 hval0
  obtain ⟨xs0, x0, y0⟩ := open_trod 9 k24 hf0
  obtain ⟨xs1, x1, y1⟩ := open_trod 9 k26 hf1
  obtain ⟨cs0, rfl, z0⟩ := agg_of x0 (by rw [← y0.length]; decide)
  obtain ⟨cs1, rfl, z1⟩ := agg_of x1 (by rw [← y1.length]; decide)
  have hall := z0.app z1
  have c0 := crs_of (W := W) (all := xs0 ++ xs1) (i := 0) (xs := xs0) (fun j x hx => by rw [Nat.zero_add, List.getElem?_append_left (List.getElem?_eq_some_iff.1 hx).1]; exact hx) z0
  have c1 := crs_of (W := W) (all := xs0 ++ xs1) (i := xs0.length) (xs := xs1) (fun j x hx => by rw [List.getElem?_append_right (by omega), Nat.add_sub_cancel_left]; exact hx) z1
  have hr := hr_of (W := W) (all := xs0 ++ xs1) (xr_some hall)
  cases y0 with
  | cons q0 y0 =>
  cases y0 with
  | cons q1 y0 =>
  cases y0 with
  | cons q2 y0 =>
  cases y0
  cases y1 with
  | cons q3 y1 =>
  cases y1 with
  | cons q4 y1 =>
  cases y1 with
  | cons q5 y1 =>
  cases y1
  obtain ⟨r, rfl⟩ := xk_int q0
  obtain ⟨c, rfl⟩ := xk_int q1
  obtain ⟨s, rfl⟩ := xk_int q3
  obtain ⟨t, rfl⟩ := xk_int q4
  obtain ⟨d, rfl⟩ := xk_int q5
  rename_i s0
  obtain ⟨L, hL, _⟩ := li_of (all := [.int .i64 r, .int .i64 c, s0] ++ [.int .i64 s, .int .i64 t, .int .i64 d]) (i := 2) rfl q2
  have hargs : All2 (VR (envOf W ([.int .i64 r, .int .i64 c, s0] ++ [.int .i64 s, .int .i64 t, .int .i64 d]))) [.agg 3 [.int .i64 r, .int .i64 c, cOf 2 s0], .agg 3 [.int .i64 s, .int .i64 t, .int .i64 d]] [.agg cs0, .agg cs1] :=
    .cons ⟨cs0, rfl, c0, rfl⟩ (.cons ⟨cs1, rfl, c1, rfl⟩ .nil)
  refine (callsIn_wide.1 (call_of fits htab (s11 (Q := fun v _ => v = .c (.bool true)) hL fun _ => rfl) hr (args' := #[.agg cs0, .agg cs1]) hargs 0)).mono fun en W' hp => ?_
  obtain ⟨v, v', e', m', rfl, hst, hvr, rfl⟩ := hp
  have hv' : v' = .bool true := hvr
  subst hv'
  have hbelow := below_of hst
  refine ⟨_, rfl, [d0, d1], [], p0 ++ p1, [], p0 ++ p1, [], by simpa using hW', trodAll_mk1 (shut_bool Try.underlying4 _),
    trodAll_mk2 (Below.trod laid (by kernel_rfl) (of_decide_eq_true (by kernel_rfl)) h0 hbelow fun x hx => hlt x (by simp [hx])) (Below.trod laid (by kernel_rfl) (of_decide_eq_true (by kernel_rfl)) h1 hbelow fun x hx => hlt x (by simp [hx])), rfl, kept_of hst _, fun hc => by cases hc⟩
theorem draws_holds : Rows.FrameDrawsSaid :=
  OpenClaim.holds_of_wide 11 Try.f11 rfl rfl rfl rfl rfl rfl rfl ⟨rfl, rfl, rfl, rfl, rfl⟩ rfl rfl rfl rfl rfl (by kernel_rfl) Try.func11 (by kernel_rfl)
    (of_decide_eq_true (by kernel_rfl)) (by unfold Func.isWrapper; first | (rw [if_pos (by decide +kernel)]; kernel_rfl) | (rw [if_neg (by decide +kernel)]; exact ⟨rfl, rfl⟩))
    (fun os started H enc _ => draws_lifted os started H enc)
end Go.Proofs.Ytgkjfhkjgdiodaa
