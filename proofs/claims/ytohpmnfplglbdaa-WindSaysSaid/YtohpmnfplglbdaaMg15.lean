/- For every input the law WindSays returns true, and each argument reads behind the call as it read before. Conditions: none. -/
import Derived.Test.YtohpmnfplglbdaaMg14
import Derived.Laws.IdiomArrays
/- For every input the law WindSays returns true, and each argument reads behind the call as it read before. Conditions: none. -/
namespace Go.Proofs.Ytohpmnfplglbdaa
open Go.ChangeShapes Go.WideShapes Go.ChangeAt Go.RowKit Go.Gh
set_option linter.unusedVariables false
section
set_option maxRecDepth 100000
theorem tree6 (a b d : Option Addr) (n z n2 z2 n3 z3 : Nat) (age shear x0 x1 x2 x3 : Int) (o0 o1 o2 : Ob) :
    evC Try.prog ((p36 36).or ((p36 37).or p24)).c 60 (.call 6 ⟨[.agg ⟨[.slice a n z, .slice b n2 z2, .slice d n3 z3, .int .i64 age, .int .i64 shear]⟩, .agg ⟨[.int .i64 x0, .int .i64 x1, .int .i64 x2, .int .i64 x3]⟩]⟩ ⟨[o0, o1, o2], 3, []⟩) some =
    cond (okTA a b d n z n2 z2 n3 z3 o0 o1 o2)
    (cond (okTA a b d n z n2 z2 n3 z3 o0 o1 o2)
     (cond (and (decide ((syXl a b d n n2 n3 age shear x0 x1 x2 x3 [o0, o1, o2]) = (syXl a b d n n2 n3 age shear x0 x1 x2 x3 [o0, o1, o2]))) (and (decide ((syXh a b d n n2 n3 age shear x0 x1 x2 x3 [o0, o1, o2]) = (syXh a b d n n2 n3 age shear x0 x1 x2 x3 [o0, o1, o2]))) true))
      (cond (and (decide ((syYl a b d n n2 n3 age shear x0 x1 x2 x3 [o0, o1, o2]) = (syYl a b d n n2 n3 age shear x0 x1 x2 x3 [o0, o1, o2]))) (and (decide ((syYh a b d n n2 n3 age shear x0 x1 x2 x3 [o0, o1, o2]) = (syYh a b d n n2 n3 age shear x0 x1 x2 x3 [o0, o1, o2]))) true))
       (cond (decide ((syE a b d n n2 n3 age shear x0 x1 x2 x3 [o0, o1, o2]) = (syE a b d n n2 n3 age shear x0 x1 x2 x3 [o0, o1, o2])))
        (some (Out.ret (Value.bool true) (Hp.mk [o0, o1, o2] 3 [])))
        (some (Out.ret (Value.bool false) (Hp.mk [o0, o1, o2] 3 []))))
       (some (Out.ret (Value.bool false) (Hp.mk [o0, o1, o2] 3 []))))
      (some (Out.ret (Value.bool false) (Hp.mk [o0, o1, o2] 3 []))))
     (none))
    (none) := by kernel_rfl
theorem law6 {a b d : Option Addr} {n z n2 z2 n3 z3 : Nat} {age shear x0 x1 x2 x3 : Int} {o0 o1 o2 : Ob} (h : TaskAt a b d n z n2 z2 n3 z3 o0 o1 o2) :
    Fact Try.prog (.call 6 ⟨[.agg ⟨[.slice a n z, .slice b n2 z2, .slice d n3 z3, .int .i64 age, .int .i64 shear]⟩, .agg ⟨[.int .i64 x0, .int .i64 x1, .int .i64 x2, .int .i64 x3]⟩]⟩ ⟨[o0, o1, o2], 3, []⟩) (.ret (.bool true) ⟨[o0, o1, o2], 3, []⟩) := by
  refine (known36c.or (known37c.or known24)).fact noNG mixed (n := 60) ?_
  rw [tree6]
  have hk : okTA a b d n z n2 z2 n3 z3 o0 o1 o2 = true := dec_iff.2 h
  simp only [hk, decide_true, Bool.and_self, cond_true]
end
/-! ### what is handed over -/
theorem okWide_arr {P : Program} {w : World} {r : Reach} {base : Nat} {t : TypeId} {v : Value} {n : Nat} {e : TypeId} (ht : P.underlying t = some (.array n e)) (h : Value.okWide P w r base t v) : ∃ cs, v = .agg cs ∧ cs.size = P.cellsOf t := by
  simp only [Value.okWide, ht] at h
  obtain ⟨cs, rfl, hs, _⟩ := h
  exact ⟨cs, rfl, hs⟩
theorem four {cs : Array Value} (h : cs.size = 4) : ∃ u0 u1 u2 u3, cs = #[u0, u1, u2, u3] := by
  obtain ⟨l⟩ := cs
  match l, h with
  | [u0, u1, u2, u3], _ => exact ⟨u0, u1, u2, u3, rfl⟩
theorem und43 : Try.prog.underlying 43 = some (.array 4 3) := by kernel_rfl
theorem cells43 : Try.prog.cellsOf 43 = 4 := by kernel_rfl
set_option maxRecDepth 100000 in
theorem fourArg {H : Type} {enc : TypeId × Value → H} {w : World} {r : Reach} {b0 : Nat} {v : Value} {dd : DataW H} {p : List MemPlace} (hval : Value.okWide Try.prog w r b0 43 v) (h : DataW.Trod enc Try.prog w 0 (fun _ => true) true 43 v dd p) :
    ∃ x0 x1 x2 x3, v = .agg ⟨[.int .i64 x0, .int .i64 x1, .int .i64 x2, .int .i64 x3]⟩ := by
  obtain ⟨cs, rfl, hcs⟩ := okWide_arr und43 hval
  rw [cells43] at hcs
  obtain ⟨u0, u1, u2, u3, rfl⟩ := four hcs
  obtain ⟨fu, hf⟩ := h
  obtain ⟨y0, y1, y2, y3, n, _, t0, t1, t2, t3⟩ := trod_array4 und43 cells3o hf
  obtain ⟨m0, e0, _, _⟩ := DataW.trod_int Try.underlying3 t0
  obtain ⟨m1, e1, _, _⟩ := DataW.trod_int Try.underlying3 t1
  obtain ⟨m2, e2, _, _⟩ := DataW.trod_int Try.underlying3 t2
  obtain ⟨m3, e3, _, _⟩ := DataW.trod_int Try.underlying3 t3
  simp only [List.cons.injEq, and_true] at e0 e1 e2 e3
  subst e0 e1 e2 e3
  exact ⟨m0, m1, m2, m3, rfl⟩
/-- The block of a list that has nothing need not be there. -/
theorem sArg_dead {w : World} {L : List Leaf} {k : Nat} {v : Value} {a : Option Addr} {n z : Nat} {o : Ob} {x : Option (Nat × Nat × Nat)} (h : SArg w L k v a n z o x) : ∃ o', SArg w L k v a n z o' x ∧ grOb o' := by
  rcases h.good with rfl | ⟨h1, h2, c, h3, hg⟩
  · exact ⟨.dead, ⟨h.adr, h.vr, fun hl => (by cases hl), rfl, .inl rfl, h.few⟩, .inl rfl⟩
  · exact ⟨o, h, .inr ⟨c, h3, hg.1⟩⟩
section
variable {w : World} {v : Value} {a b d : Option Addr} {n z n2 z2 n3 z3 : Nat} {age shear : Int} {o0 o1 o2 : Ob} {x0 x1 x2 : Option (Nat × Nat × Nat)}
theorem TArg.at (h : TArg w v a b d n z n2 z2 n3 z3 age shear o0 o1 o2 x0 x1 x2) :
    ∃ o0 o1 o2, TArg w v a b d n z n2 z2 n3 z3 age shear o0 o1 o2 x0 x1 x2 ∧ TaskAt a b d n z n2 z2 n3 z3 o0 o1 o2 := by
  obtain ⟨u0, u1, u2, rfl, h0, h1, h2⟩ := h.val
  obtain ⟨o0, k0, g0⟩ := sArg_dead h0
  obtain ⟨o1, k1, g1⟩ := sArg_dead h1
  obtain ⟨o2, k2, g2⟩ := sArg_dead h2
  have ht : TArg w (.agg #[u0, u1, u2, .int .i64 age, .int .i64 shear]) a b d n z n2 z2 n3 z3 age shear o0 o1 o2 x0 x1 x2 := ⟨u0, u1, u2, rfl, k0, k1, k2⟩
  exact ⟨o0, o1, o2, ht, ht.on, k0.adr, k1.adr, k2.adr, g0, g1, g2⟩
end
theorem walk {W : World} {v0 : Value} {a b d : Option Addr} {n z n2 z2 n3 z3 : Nat} {age shear x0 x1 x2 x3 : Int} {o0 o1 o2 : Ob} {y0 y1 y2 : Option (Nat × Nat × Nat)} (h : TArg W v0 a b d n z n2 z2 n3 z3 age shear o0 o1 o2 y0 y1 y2) (hat : TaskAt a b d n z n2 z2 n3 z3 o0 o1 o2) :
    Calls Try.prog 6 #[v0, .agg ⟨[.int .i64 x0, .int .i64 x1, .int .i64 x2, .int .i64 x3]⟩] W fun e w' => e = .returned (.bool true) ∧ Below W.heap.size W w' :=
  calls_of_fact (l := [(o0, y0), (o1, y1), (o2, y2)]) (law6 (x0 := x0) (x1 := x1) (x2 := x2) (x3 := x3) hat) (Nat.le_refl 3) rfl h.obs
    (((VRs.nil _).push h.vr).push (VRs.agg (((((VRs.nil _).push (.int _ _)).push (.int _ _)).push (.int _ _)).push (.int _ _))))

set_option maxRecDepth 100000 in
theorem lifted (os : Os) (started : os.Started) (H : Type) (enc : TypeId × Value → H) :
    ReturnsInHanded {} Try.checked os 6 .any (Rows.windSaysSpec.pre6 enc Try.prog Try.f6 Rows.windSaysRow.domain false) (Rows.windSaysSpec.post enc Try.prog Try.f6 false true false false) := by
  refine returnsInHanded_of_change (C := Try.checked) own started (by kernel_rfl) Try.func6
    (ChangeSpec.witness6 (enc := enc) (C := Try.checked) false ⟨#[], #[.agg #[.slice none 0 0, .slice none 0 0, .slice none 0 0, .int .i64 0, .int .i64 0], .agg #[.int .i64 0, .int .i64 0, .int .i64 0, .int .i64 0]], []⟩ 8 (by kernel_rfl) (by kernel_rfl) (by kernel_rfl) (by kernel_rfl)) ?_
  intro W base args ds gs before hval0 hW hcnd _
  have hval : ∀ (j : Nat) t v, Try.f6.params[j]? = some t → args[j]? = some v → Value.okWide Try.prog W .any base t v := hval0
  have hW' := hW
  obtain ⟨p, q, hA0, hV, rfl, hfz, hnd⟩ := hW
  have hA : DataW.TrodAll enc Try.prog W 0 (fun _ => true) true Try.f6.params.toList args.toList ds p := hA0
  rw [Try.params6] at hA hval
  obtain ⟨v0, vs0, d0, ds0, p0, q0, hargs, rfl, rfl, h0, r0⟩ := trodAll_cons hA
  obtain ⟨v1, vs1, d1, ds1, p1, q1, rfl, rfl, rfl, h1, r1⟩ := trodAll_cons r0
  obtain ⟨rfl, rfl, rfl⟩ := trodAll_nil r1
  obtain rfl : args = #[v0, v1] := by cases args; simp_all
  obtain ⟨rfl, rfl⟩ := trodVars_none hV
  have k0 := h0
  have k1 := h1
  have lt0 : ∀ x ∈ p0, x.block < W.heap.size := by obtain ⟨m, hm⟩ := k0; exact DataW.trod_lt m _ _ _ hm
  have lt1 : ∀ x ∈ p1, x.block < W.heap.size := by obtain ⟨m, hm⟩ := k1; exact DataW.trod_lt m _ _ _ hm
  obtain ⟨a, b, d, n, z, n2, z2, n3, z3, age, shear, o0, o1, o2, x0, x1, x2, g⟩ := taskArg (hval 0 26 v0 rfl rfl) h0
  obtain ⟨o0, o1, o2, g, hat⟩ := g.at
  obtain ⟨y0, y1, y2, y3, rfl⟩ := fourArg (hval 1 43 v1 rfl rfl) h1
  clear hA0 hval0
  refine (walk g hat).mono fun e W' ⟨he, bel⟩ => ?_
  subst he
  exact ⟨_, rfl, _, _, _, [], _, [], hW', trodAll_mk1 (shut_bool Try.underlying4 _), (trodAll_cons_mk (Below.trod laidOut (by kernel_rfl) (of_decide_eq_true (by kernel_rfl)) k0 bel lt0) (trodAll_cons_mk (Below.trod laidOut (by kernel_rfl) (of_decide_eq_true (by kernel_rfl)) k1 bel lt1) trodAll_mk0)), rfl, bel.frame _, fun h => by cases h⟩

theorem over : Rows.windSaysRow.holds Try.pinned (OpenSpec.ofChange Rows.windSaysSpec) :=
  OpenClaim.holds_of_wide 6 Try.f6 rfl rfl rfl rfl rfl rfl rfl ⟨rfl, rfl, rfl, rfl, rfl⟩ rfl rfl rfl rfl rfl (by kernel_rfl) Try.func6 (by kernel_rfl)
    (of_decide_eq_true (by kernel_rfl)) (by unfold Func.isWrapper; first | (rw [if_pos (by decide +kernel)]; kernel_rfl) | (rw [if_neg (by decide +kernel)]; exact ⟨rfl, rfl⟩))
    (fun os started H enc _ => lifted os started H enc)

/-- The statement. -/
theorem windSaysProved : Rows.WindSaysSaid := over
#print axioms windSaysProved
end Go.Proofs.Ytohpmnfplglbdaa

