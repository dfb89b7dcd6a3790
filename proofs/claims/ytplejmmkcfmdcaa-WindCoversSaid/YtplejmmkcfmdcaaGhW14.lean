/- For every input the law WindCovers returns true, and each argument reads behind the call as it read before. Conditions: none. -/
import Derived.Test.YtplejmmkcfmdcaaGhW13
import Derived.Test.YtplejmmkcfmdcaaGhCf
import Derived.Test.YtplejmmkcfmdcaaRows
import Derived.WalkKit
import Derived.ProofKit
import Derived.OpenShut
import Derived.ChangeOld
import Derived.Below
import Derived.Deep.Strs
namespace Go.Proofs.Ytplejmmkcfmdcaa
open Go.ChangeShapes Go.WideShapes Go.ChangeAt Go.RowKit Go.Gh
set_option linter.unusedVariables false

theorem own : ownKnob Try.prog.godebug = none := by kernel_rfl
theorem laidOut : laidOutB Try.prog = true := by kernel_rfl
theorem flat75 : flatT Try.prog 20 75 = true := by kernel_rfl
theorem leaves75 : leaves Try.prog 20 75 = L6 := by kernel_rfl
theorem cells75 : Try.prog.cellsOf 75 = (leaves Try.prog 20 75).length := by kernel_rfl
theorem cells98 : Try.prog.cellsOf 98 = 3 := by kernel_rfl
theorem cells33 : Try.prog.cellsOf 33 = 1 := by kernel_rfl

theorem three {cs : Array Value} (h : cs.size = 3) : ∃ u0 u1 u2, cs = #[u0, u1, u2] := by
  obtain ⟨l⟩ := cs
  match l, h with
  | [u0, u1, u2], _ => exact ⟨u0, u1, u2, rfl⟩
theorem ok_of {w : World} {b : Nat} {v : Value} {a : Option Addr} {n sz : Nat} {ob : Ob} {x : Option (Nat × Nat × Nat)} {H : List Ob} (h : SArg w L6 b v a n sz ob x) (hH : H[b]? = some ob) : okS a n sz H = true := by
  rcases h.good with rfl | ⟨rfl, rfl, c, rfl, hg⟩
  · exact okS_zero _ _ _
  · exact okS_at (r := true) hg hH

theorem walk {W : World} {v0 v1 v2 : Value} {a0 a1 a2 : Option Addr} {n0 s0 n1 s1 n2 s2 : Nat} {o0 o1 o2 : Ob} {x0 x1 x2 : Option (Nat × Nat × Nat)} (h0 : SArg W L6 0 v0 a0 n0 s0 o0 x0) (h1 : SArg W L6 1 v1 a1 n1 s1 o1 x1) (h2 : SArg W L6 2 v2 a2 n2 s2 o2 x2) (x : Int) :
    Calls Try.prog 18 #[.agg #[v0, v1, v2], .int .i64 x] W fun e w' => e = .returned (.bool true) ∧ Below W.heap.size W w' := by
  refine calls_of_fact (l := [(o0, x0), (o1, x1), (o2, x2)]) (law18 (x := x) (fun y hy => by rw [h0.adr y hy]; decide) (fun y hy => by rw [h1.adr y hy]; decide) (fun y hy => by rw [h2.adr y hy]; decide)
    (ok_of (H := [o0, o1, o2]) h0 rfl) (ok_of (H := [o0, o1, o2]) h1 rfl) (ok_of (H := [o0, o1, o2]) h2 rfl)) (Nat.le_refl 3) rfl ?_ ?_
  · intro p hp
    simp only [List.mem_cons, List.not_mem_nil, or_false] at hp
    rcases hp with rfl | rfl | rfl
    · exact ⟨h0.live, h0.ro⟩
    · exact ⟨h1.live, h1.ro⟩
    · exact ⟨h2.live, h2.ro⟩
  · refine ((VRs.nil _).push (VRs.agg ((((VRs.nil _).push (h0.vr _ fun y hy => ?_)).push (h1.vr _ fun y hy => ?_)).push (h2.vr _ fun y hy => ?_)))).push (.int _ _)
    · simp [phiOf, hy]
    · simp [phiOf, hy]
    · simp [phiOf, hy]

set_option maxRecDepth 100000 in
theorem lifted (os : Os) (started : os.Started) (H : Type) (enc : TypeId × Value → H) :
    ReturnsInHanded {} Try.checked os 18 .any (Rows.windCoversSpec.pre6 enc Try.prog Try.f18 Rows.windCoversRow.domain false) (Rows.windCoversSpec.post enc Try.prog Try.f18 false true false false) := by
  refine returnsInHanded_of_change (C := Try.checked) own started (by kernel_rfl) Try.func18
    (ChangeSpec.witness6 (enc := enc) (C := Try.checked) false ⟨#[], #[.agg #[.slice none 0 0, .slice none 0 0, .slice none 0 0], .int .i64 0], []⟩ 8 (by kernel_rfl) (by kernel_rfl) (by kernel_rfl) (by kernel_rfl)) ?_
  intro W base args ds gs before hval0 hW hcnd _
  have hval : ∀ (j : Nat) t v, Try.f18.params[j]? = some t → args[j]? = some v → Value.okWide Try.prog W .any base t v := hval0
  have hW' := hW
  obtain ⟨p, q, hA0, hV, rfl, hfz, hnd⟩ := hW
  have hA : DataW.TrodAll enc Try.prog W 0 (fun _ => true) true Try.f18.params.toList args.toList ds p := hA0
  rw [Try.params18] at hA hval
  obtain ⟨v0, vs0, d0, ds0, p0, q0, hargs, rfl, rfl, h0, r0⟩ := trodAll_cons hA
  obtain ⟨v1, vs1, d1, ds1, p1, q1, rfl, rfl, rfl, h1, r1⟩ := trodAll_cons r0
  obtain ⟨rfl, rfl, rfl⟩ := trodAll_nil r1
  obtain rfl : args = #[v0, v1] := by cases args; simp_all
  obtain ⟨rfl, rfl⟩ := trodVars_none hV
  have k0 := h0
  have lt0 : ∀ x ∈ p0, x.block < W.heap.size := by obtain ⟨m, hm⟩ := k0; exact DataW.trod_lt m _ _ _ hm
  obtain ⟨cs, rfl, hcs⟩ := okWide_struct Try.underlying98 (hval 0 98 v0 rfl rfl)
  rw [cells98] at hcs
  obtain ⟨u0, u1, u2, rfl⟩ := three hcs
  obtain ⟨fu0, hf0⟩ := h0
  obtain ⟨y0, y1, y2, n, _, _, t0, t1, t2⟩ := Go.Deep.trod_struct3 Try.underlying98 hf0
  have t0' : DataW.trod enc Try.prog W 0 (fun _ => true) true n 33 [u0] = some y0 := by
    have e : List.take (Try.prog.cellsOf 33) (List.drop 0 [u0, u1, u2]) = [u0] := by rw [cells33]; rfl
    rw [← e]; exact t0
  have t1' : DataW.trod enc Try.prog W 0 (fun _ => true) true n 33 [u1] = some y1 := by
    have e : List.take (Try.prog.cellsOf 33) (List.drop 1 [u0, u1, u2]) = [u1] := by rw [cells33]; rfl
    rw [← e]; exact t1
  have t2' : DataW.trod enc Try.prog W 0 (fun _ => true) true n 33 [u2] = some y2 := by
    have e : List.take (Try.prog.cellsOf 33) (List.drop 2 [u0, u1, u2]) = [u2] := by rw [cells33]; rfl
    rw [← e]; exact t2
  clear t0 t1 t2
  obtain ⟨b0, n0, s0, o0, x0, g0⟩ := sArg Try.underlying33 flat75 cells75 (by rw [leaves75]; decide) t0' 0
  obtain ⟨b1, n1, s1, o1, x1, g1⟩ := sArg Try.underlying33 flat75 cells75 (by rw [leaves75]; decide) t1' 1
  obtain ⟨b2, n2, s2, o2, x2, g2⟩ := sArg Try.underlying33 flat75 cells75 (by rw [leaves75]; decide) t2' 2
  rw [leaves75] at g0 g1 g2
  obtain ⟨a2, rfl, rfl, rfl, w2⟩ := open_int Try.underlying3 (hval 1 3 v1 rfl rfl) h1
  clear hA0 hval0
  refine (walk g0 g1 g2 a2).mono fun e W' ⟨he, bel⟩ => ?_
  subst he
  exact ⟨_, rfl, _, _, _, [], _, [], hW', trodAll_mk1 (shut_bool Try.underlying4 _), (trodAll_cons_mk (Below.trod laidOut (by kernel_rfl) (of_decide_eq_true (by kernel_rfl)) k0 bel lt0) (trodAll_cons_mk (shut_int Try.underlying3 w2) trodAll_mk0)), rfl, bel.frame _, fun h => by cases h⟩

theorem over : Rows.windCoversRow.holds Try.pinned (OpenSpec.ofChange Rows.windCoversSpec) :=
  OpenClaim.holds_of_wide 18 Try.f18 rfl rfl rfl rfl rfl rfl rfl ⟨rfl, rfl, rfl, rfl, rfl⟩ rfl rfl rfl rfl rfl (by kernel_rfl) Try.func18 (by kernel_rfl)
    (of_decide_eq_true (by kernel_rfl)) (by unfold Func.isWrapper; first | (rw [if_pos (by decide +kernel)]; kernel_rfl) | (rw [if_neg (by decide +kernel)]; exact ⟨rfl, rfl⟩))
    (fun os started H enc _ => lifted os started H enc)

/-- The statement. -/
theorem windCoversProved : Rows.WindCoversSaid := over
#print axioms windCoversProved
end Go.Proofs.Ytplejmmkcfmdcaa
