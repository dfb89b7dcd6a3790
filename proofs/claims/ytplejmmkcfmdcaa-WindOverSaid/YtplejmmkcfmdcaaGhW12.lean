/- For every input the law WindOver returns true, and each argument reads behind the call as it read before. Conditions: none. -/
import Derived.Test.YtplejmmkcfmdcaaGhW11
import Derived.Test.YtplejmmkcfmdcaaGhCf
import Derived.Test.YtplejmmkcfmdcaaRows
import Derived.WalkKit
import Derived.ProofKit
import Derived.OpenShut
import Derived.ChangeOld
import Derived.Below
namespace Go.Proofs.Ytplejmmkcfmdcaa
open Go.ChangeShapes Go.WideShapes Go.ChangeAt Go.RowKit Go.Gh
set_option linter.unusedVariables false

theorem own : ownKnob Try.prog.godebug = none := by kernel_rfl
theorem laidOut : laidOutB Try.prog = true := by kernel_rfl
theorem flat75 : flatT Try.prog 20 75 = true := by kernel_rfl
theorem leaves75 : leaves Try.prog 20 75 = L6 := by kernel_rfl
theorem cells75 : Try.prog.cellsOf 75 = (leaves Try.prog 20 75).length := by kernel_rfl

theorem good_of {c : Array Value} {off n : Nat} (h : GoodL L6 c off n) : Good c off n := h

theorem ok_of {w : World} {b : Nat} {v : Value} {a : Option Addr} {n sz : Nat} {ob : Ob} {x : Option (Nat × Nat × Nat)} {H : List Ob} (h : SArg w L6 b v a n sz ob x) (hH : H[b]? = some ob) : okS a n sz H = true := by
  rcases h.good with rfl | ⟨rfl, rfl, c, rfl, hg⟩
  · exact okS_zero _ _ _
  · exact okS_at (r := true) (good_of hg) hH

theorem walk {W : World} {v0 v1 : Value} {a0 a1 : Option Addr} {n0 s0 n1 s1 : Nat} {o0 o1 : Ob} {x0 x1 : Option (Nat × Nat × Nat)} (h0 : SArg W L6 0 v0 a0 n0 s0 o0 x0) (h1 : SArg W L6 1 v1 a1 n1 s1 o1 x1) (x : Int) :
    Calls Try.prog 4 #[v0, v1, .int .i64 x] W fun e w' => e = .returned (.bool true) ∧ Below W.heap.size W w' := by
  refine calls_of_fact (l := [(o0, x0), (o1, x1)]) (law4 (x := x) (fun y hy => by rw [h0.adr y hy]; decide) (fun y hy => by rw [h1.adr y hy]; decide) (ok_of (H := [o0, o1]) h0 rfl) (ok_of (H := [o0, o1]) h1 rfl)) (Nat.le_refl 2) rfl ?_ ?_
  · intro p hp
    simp only [List.mem_cons, List.not_mem_nil, or_false] at hp
    rcases hp with rfl | rfl
    · exact ⟨h0.live, h0.ro⟩
    · exact ⟨h1.live, h1.ro⟩
  · refine (((VRs.nil _).push (h0.vr _ fun y hy => ?_)).push (h1.vr _ fun y hy => ?_)).push (.int _ _)
    · simp [phiOf, hy]
    · simp [phiOf, hy]

set_option maxRecDepth 100000 in
theorem lifted (os : Os) (started : os.Started) (H : Type) (enc : TypeId × Value → H) :
    ReturnsInHanded {} Try.checked os 4 .any (Rows.windOverSpec.pre6 enc Try.prog Try.f4 Rows.windOverRow.domain false) (Rows.windOverSpec.post enc Try.prog Try.f4 false true false false) := by
  refine returnsInHanded_of_change (C := Try.checked) own started (by kernel_rfl) Try.func4
    (ChangeSpec.witness6 (enc := enc) (C := Try.checked) false ⟨#[], #[.slice none 0 0, .slice none 0 0, .int .i64 0], []⟩ 8 (by kernel_rfl) (by kernel_rfl) (by kernel_rfl) (by kernel_rfl)) ?_
  intro W base args ds gs before hval0 hW hcnd _
  have hval : ∀ (j : Nat) t v, Try.f4.params[j]? = some t → args[j]? = some v → Value.okWide Try.prog W .any base t v := hval0
  have hW' := hW
  obtain ⟨p, q, hA0, hV, rfl, hfz, hnd⟩ := hW
  have hA : DataW.TrodAll enc Try.prog W 0 (fun _ => true) true Try.f4.params.toList args.toList ds p := hA0
  rw [Try.params4] at hA hval
  obtain ⟨v0, vs0, d0, ds0, p0, q0, hargs, rfl, rfl, h0, r0⟩ := trodAll_cons hA
  obtain ⟨v1, vs1, d1, ds1, p1, q1, rfl, rfl, rfl, h1, r1⟩ := trodAll_cons r0
  obtain ⟨v2, vs2, d2, ds2, p2, q2, rfl, rfl, rfl, h2, r2⟩ := trodAll_cons r1
  obtain ⟨rfl, rfl, rfl⟩ := trodAll_nil r2
  obtain rfl : args = #[v0, v1, v2] := by cases args; simp_all
  obtain ⟨rfl, rfl⟩ := trodVars_none hV
  obtain ⟨a0, len0, cap0, rfl⟩ := okWide_slice Try.underlying33 (hval 0 33 v0 rfl rfl)
  obtain ⟨a1, len1, cap1, rfl⟩ := okWide_slice Try.underlying33 (hval 1 33 v1 rfl rfl)
  have k0 := h0
  have k1 := h1
  have lt0 : ∀ x ∈ p0, x.block < W.heap.size := by obtain ⟨m, hm⟩ := k0; exact DataW.trod_lt m _ _ _ hm
  have lt1 : ∀ x ∈ p1, x.block < W.heap.size := by obtain ⟨m, hm⟩ := k1; exact DataW.trod_lt m _ _ _ hm
  obtain ⟨fu0, hf0⟩ := h0
  obtain ⟨fu1, hf1⟩ := h1
  obtain ⟨b0, n0, s0, o0, x0, g0⟩ := sArg Try.underlying33 flat75 cells75 (by rw [leaves75]; decide) hf0 0
  obtain ⟨b1, n1, s1, o1, x1, g1⟩ := sArg Try.underlying33 flat75 cells75 (by rw [leaves75]; decide) hf1 1
  rw [leaves75] at g0 g1
  obtain ⟨a2, rfl, rfl, rfl, w2⟩ := open_int Try.underlying3 (hval 2 3 v2 rfl rfl) h2
  clear hA0 hval0
  refine (walk g0 g1 a2).mono fun e W' ⟨he, bel⟩ => ?_
  subst he
  exact ⟨_, rfl, _, _, _, [], _, [], hW', trodAll_mk1 (shut_bool Try.underlying4 _), (trodAll_cons_mk (Below.trod laidOut (by kernel_rfl) (of_decide_eq_true (by kernel_rfl)) k0 bel lt0) (trodAll_cons_mk (Below.trod laidOut (by kernel_rfl) (of_decide_eq_true (by kernel_rfl)) k1 bel lt1) (trodAll_cons_mk (shut_int Try.underlying3 w2) trodAll_mk0))), rfl, bel.frame _, fun h => by cases h⟩

theorem over : Rows.windOverRow.holds Try.pinned (OpenSpec.ofChange Rows.windOverSpec) :=
  OpenClaim.holds_of_wide 4 Try.f4 rfl rfl rfl rfl rfl rfl rfl ⟨rfl, rfl, rfl, rfl, rfl⟩ rfl rfl rfl rfl rfl (by kernel_rfl) Try.func4 (by kernel_rfl)
    (of_decide_eq_true (by kernel_rfl)) (by unfold Func.isWrapper; first | (rw [if_pos (by decide +kernel)]; kernel_rfl) | (rw [if_neg (by decide +kernel)]; exact ⟨rfl, rfl⟩))
    (fun os started H enc _ => lifted os started H enc)

/-- The statement. -/
theorem windOverProved : Rows.WindOverSaid := over
#print axioms windOverProved
end Go.Proofs.Ytplejmmkcfmdcaa
