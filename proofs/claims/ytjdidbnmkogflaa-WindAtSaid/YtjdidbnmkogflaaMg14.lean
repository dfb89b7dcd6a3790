/- Part 14 of the texts below the claim. Conditions: none. -/
import Derived.Test.YtjdidbnmkogflaaRows
import Derived.WalkKit
import Derived.ProofKit
import Derived.OpenShut
import Derived.ChangeOld
import Derived.Below
import Derived.Deep.Strs
import Derived.ChangeMaps5
import Derived.Test.YtjdidbnmkogflaaMg13
import Derived.Test.YtjdidbnmkogflaaMg9
import Derived.Test.YtjdidbnmkogflaaMg12
import Derived.Test.YtjdidbnmkogflaaMg10
import Derived.Test.YtjdidbnmkogflaaMg11
import Derived.Test.YtjdidbnmkogflaaMg6
import Derived.Test.YtjdidbnmkogflaaMg5
namespace Go.Proofs.Ytjdidbnmkogflaa
open Go.ChangeShapes Go.WideShapes Go.ChangeAt Go.RowKit Go.Gi Go.Proofs.Ytjdidbnmkogflaa.Old
set_option linter.unusedVariables false
section
variable {P : Program}
theorem tyI {d : Nat} {t : TypeId} {cs : List Value} (hu : P.underlying t = some (.int .i64)) (h : Ty P (d + 1) t cs) : ∃ n,cs = [.int .i64 n] ∧ (Lit.int .i64 n).wf = true:=by
  unfold Ty at h
  rw [hu] at h
  exact h
theorem tyL {d : Nat} {t e : TypeId} {cs : List Value} (hu : P.underlying t = some (.slice e)) (h : Ty P (d + 1) t cs) :
    ∃ (c : Array Value) (n : Nat),cs = [lstV c 0 n (P.cellsOf e)] ∧ c.size = n * P.cellsOf e ∧ n ≤ maxLen ∧ ∀ k,k < n → Ty P d e ((c.toList.drop (k * P.cellsOf e)).take (P.cellsOf e)):=by
  unfold Ty at h
  rw [hu] at h
  exact h
theorem tyS {d : Nat} {t : TypeId} {fs : Array Field} {cs : List Value} (hu : P.underlying t = some (.struct fs)) (h : Ty P (d + 1) t cs) : ∃ ps : List (List Value),cs = ps.flatten ∧ All2 (fun (f : Field) p=>Ty P d f.type p) fs.toList ps:=by
  unfold Ty at h
  rw [hu] at h
  exact h
theorem tyA {d : Nat} {t e : TypeId} {n : Nat} {cs : List Value} (hu : P.underlying t = some (.array n e)) (h : Ty P (d + 1) t cs) : ∃ ps : List (List Value),cs = ps.flatten ∧ ps.length = n ∧ ∀ p ∈ ps,Ty P d e p:=by
  unfold Ty at h
  rw [hu] at h
  exact h
theorem tyS5 {d : Nat} {t : TypeId} {f0 f1 f2 f3 f4 : Field} {cs : List Value} (hu : P.underlying t = some (.struct #[f0,f1,f2,f3,f4])) (h : Ty P (d + 1) t cs) :
    ∃ p0 p1 p2 p3 p4,cs = p0 ++ (p1 ++ (p2 ++ (p3 ++ p4))) ∧ Ty P d f0.type p0 ∧ Ty P d f1.type p1 ∧ Ty P d f2.type p2 ∧ Ty P d f3.type p3 ∧ Ty P d f4.type p4:=by
  obtain ⟨ps,rfl,g⟩:=tyS hu h
  clear h
  cases g with
  | cons h1 g =>
  cases g with
  | cons h2 g =>
  cases g with
  | cons h3 g =>
  cases g with
  | cons h4 g =>
  cases g with
  | cons h5 g =>
  cases g
  exact ⟨_,_,_,_,_,by simp,h1,h2,h3,h4,h5⟩
theorem tyA3 {d : Nat} {t e : TypeId} {cs : List Value} (hu : P.underlying t = some (.array 3 e)) (he : P.underlying e = some (.int .i64)) (h : Ty P (d + 1 + 1) t cs) :
    ∃ x0 x1 x2,cs = [.int .i64 x0,.int .i64 x1,.int .i64 x2] ∧ (Lit.int .i64 x0).wf = true ∧ (Lit.int .i64 x1).wf = true ∧ (Lit.int .i64 x2).wf = true:=by
  obtain ⟨ps,rfl,hl,g⟩:=tyA hu h
  match ps,hl with
  | [p0,p1,p2],_ =>
    obtain ⟨x0,rfl,w0⟩:=tyI he (g p0 (by simp))
    obtain ⟨x1,rfl,w1⟩:=tyI he (g p1 (by simp))
    obtain ⟨x2,rfl,w2⟩:=tyI he (g p2 (by simp))
    exact ⟨x0,x1,x2,rfl,w0,w1,w2⟩
structure GL (L : List Leaf) (z : Nat) (c : Array Value) (n : Nat) : Prop where
  good : GoodL L c 0 n
  size : c.size = n * z
  few : n ≤ maxLen
theorem tyG {d z : Nat} {t e : TypeId} {L : List Leaf} {cs : List Value} (hu : P.underlying t = some (.slice e)) (hf : flatT P d e = true) (hz : P.cellsOf e = z) (hL : leaves P false d e = L) (hl : L.length = z) (hp : 0 < z)
    (h : Ty P (d + 1) t cs) : ∃ c n,cs = [lstV c 0 n z] ∧ GL L z c n:=by
  obtain ⟨c,n,h1,h2,h3,h4⟩:=tyL hu h
  subst hz
  subst hL
  exact ⟨c,n,h1,ty_good hf hl.symm h2 hp h4,h2,h3⟩
end
theorem own : ownKnob Try.prog.godebug = none:=by kernel_rfl
theorem laidOut : laidOutB Try.prog = true:=by kernel_rfl
theorem flat107 : flatT Try.prog 18 107 = true:=by kernel_rfl
theorem leaves107 : leaves Try.prog false 18 107 = L7:=by kernel_rfl
theorem flat89 : flatT Try.prog 18 89 = true:=by kernel_rfl
theorem leaves89 : leaves Try.prog false 18 89 = L5:=by kernel_rfl
theorem flat3 : flatT Try.prog 18 3 = true:=by kernel_rfl
theorem leaves3 : leaves Try.prog false 18 3 = L1:=by kernel_rfl
theorem cells107 : Try.prog.cellsOf 107 = 7:=by kernel_rfl
theorem cells89 : Try.prog.cellsOf 89 = 5:=by kernel_rfl
theorem cells3 : Try.prog.cellsOf 3 = 1:=by kernel_rfl
theorem tyB26 : tyB Try.prog 20 26 = true:=by kernel_rfl
theorem tyB50 : tyB Try.prog 20 50 = true:=by kernel_rfl
def Tsk (abs : List Value) : Prop:=∃ c1 n1 c2 n2 c3 n3 age shear,abs = [lstV c1 0 n1 7,lstV c2 0 n2 5,lstV c3 0 n3 1,.int .i64 age,.int .i64 shear] ∧ GL L7 7 c1 n1 ∧ GL L5 5 c2 n2 ∧ GL L1 1 c3 n3 ∧
  (Lit.int .i64 age).wf = true ∧ (Lit.int .i64 shear).wf = true
set_option maxRecDepth 100000 in
theorem tsk {abs : List Value} (h : Ty Try.prog 20 26 abs) : Tsk abs:=by
  obtain ⟨p0,p1,p2,p3,p4,rfl,h1,h2,h3,h4,h5⟩:=tyS5 Try.underlying26 h
  obtain ⟨c1,n1,rfl,g1⟩:=tyG Try.underlying22 flat107 cells107 leaves107 rfl (by decide) h1
  obtain ⟨c2,n2,rfl,g2⟩:=tyG Try.underlying23 flat89 cells89 leaves89 rfl (by decide) h2
  obtain ⟨c3,n3,rfl,g3⟩:=tyG Try.underlying24 flat3 cells3 leaves3 rfl (by decide) h3
  obtain ⟨age,rfl,w4⟩:=tyI Try.underlying3 h4
  obtain ⟨shear,rfl,w5⟩:=tyI Try.underlying3 h5
  exact ⟨c1,n1,c2,n2,c3,n3,age,shear,rfl,g1,g2,g3,w4,w5⟩
theorem GL.or {L : List Leaf} {z n : Nat} {c : Array Value} (h : GL L z c n) : n = 0 ∨ GoodL L c 0 n:=.inr h.good
theorem F20_ok_of {c1 c2 c3 : Array Value} {n1 n2 n3 : Nat} {age shear : Int} (h1 : GL L7 7 c1 n1) (h2 : GL L5 5 c2 n2) (h3 : GL L1 1 c3 n3) : F20_ok c1 0 n1 c2 0 n2 c3 0 n3 age shear = true :=
  dec_iff.2 ⟨h1.or,h2.or,h3.or⟩
theorem okWide_arr {P : Program} {w : World} {r : Reach} {base : Nat} {t : TypeId} {v : Value} {n : Nat} {e : TypeId} (ht : P.underlying t = some (.array n e)) (h : Value.okWide P w r base t v) : ∃ cs,v = .agg cs ∧ cs.size = P.cellsOf t:=by
  simp only [Value.okWide,ht] at h
  obtain ⟨cs,rfl,hs,_⟩:=h
  exact ⟨cs,rfl,hs⟩
section
variable {P : Program} {H : Type} {enc : TypeId × Value → H} {w : World} {r : Reach} {b0 : Nat} {v : Value} {dd : DataW H} {p : List MemPlace} {t e : TypeId}
theorem argS {fs : Array Field} (hu : P.underlying t = some (.struct fs)) (ht : tyB P 20 t = true) (hval : Value.okWide P w r b0 t v) (h : DataW.Trod enc P w 0 (fun _=>true) true t v dd p) : ∃ abs,VR (zAll w) (.agg ⟨abs⟩) v ∧ Ty P 20 t abs:=by
  obtain ⟨cs,rfl,hcs⟩:=okWide_struct hu hval
  obtain ⟨fu,hf⟩:=h
  exact fr_agg ht hf
theorem argA {n : Nat} (hu : P.underlying t = some (.array n e)) (ht : tyB P 20 t = true) (hval : Value.okWide P w r b0 t v) (h : DataW.Trod enc P w 0 (fun _=>true) true t v dd p) : ∃ abs,VR (zAll w) (.agg ⟨abs⟩) v ∧ Ty P 20 t abs:=by
  obtain ⟨cs,rfl,hcs⟩:=okWide_arr hu hval
  obtain ⟨fu,hf⟩:=h
  exact fr_agg ht hf
end
section
variable {H : Type} {enc : TypeId × Value → H} {w : World} {r : Reach} {b0 : Nat} {v : Value} {dd : DataW H} {p : List MemPlace}
set_option maxRecDepth 100000 in
theorem tskArg (hval : Value.okWide Try.prog w r b0 26 v) (h : DataW.Trod enc Try.prog w 0 (fun _=>true) true 26 v dd p) : ∃ abs,VR (zAll w) (.agg ⟨abs⟩) v ∧ Tsk abs:=by
  obtain ⟨abs,h1,h2⟩:=argS Try.underlying26 tyB26 hval h
  exact ⟨abs,h1,tsk h2⟩
set_option maxRecDepth 100000 in
theorem threeArg (hval : Value.okWide Try.prog w r b0 50 v) (h : DataW.Trod enc Try.prog w 0 (fun _=>true) true 50 v dd p) : ∃ x0 x1 x2,VR (zAll w) (.agg ⟨[.int .i64 x0,.int .i64 x1,.int .i64 x2]⟩) v ∧ (Lit.int .i64 x0).wf = true ∧ (Lit.int .i64 x1).wf = true ∧ (Lit.int .i64 x2).wf = true:=by
  obtain ⟨abs,h1,h2⟩:=argA Try.underlying50 tyB50 hval h
  obtain ⟨x0,x1,x2,rfl,w0,w1,w2⟩:=tyA3 Try.underlying50 Try.underlying3 h2
  exact ⟨x0,x1,x2,h1,w0,w1,w2⟩
end
end Go.Proofs.Ytjdidbnmkogflaa

namespace Go.Proofs.Ytjdidbnmkogflaa
open Go.Gi Go.RowKit Go.Proofs.Ytjdidbnmkogflaa.Old
noncomputable section
set_option maxRecDepth 100000
set_option linter.unusedSimpArgs false
section
variable {c0 c c3 : Array Value} {n n2 n3 off3 : Nat} {age shear now : Int} {k : Nat}
theorem row1 (h : GoodL L5 c 0 n2) (hk : k < n2) : rdOk c L5 (0 + k * 5) = true:=h.2 k hk
theorem row0 (h : GoodL L7 c0 0 n) {s : Int} (h0 : 0 ≤ s) (h1 : s < n) : rdOk c0 L7 (0 + s.toNat * 7) = true:=h.2 s.toNat (by omega)
theorem F77_eq (hv : Vld c0 0 n c 0 n2 age shear) (hk : k < n2) (h0 : 0 ≤ now) (h1 : now ≤ 100000) :
    F77 c0 0 n c 0 n2 c3 off3 n3 age shear (k : Int) now = some ⟨knP c0 0 c 0 now k⟩:=by
  have hs:=hv.src k hk
  have ht:=hv.tick k hk
  have hl:=hv.late (getInt c (0 + k * 5)).toNat (by omega)
  have hr1:=row1 hv.g1 hk
  have hr0:=row0 hv.g0 hs.1 hs.2
  have hki : (0 : Int) ≤ (k : Int) ∧ (k : Int) < (n2 : Int):=by omega
  have w1 : IntKind.wrap .i64 (getInt c (0 + k * 5 + 1) + getInt c0 (0 + (getInt c (0 + k * 5)).toNat * 7 + 1 + 1 + 1)) = getInt c (0 + k * 5 + 1) + getInt c0 (0 + (getInt c (0 + k * 5)).toNat * 7 + 3) :=
    wrap64_id (x:=getInt c (0 + k * 5 + 1) + getInt c0 (0 + (getInt c (0 + k * 5)).toNat * 7 + 3)) (by omega) (by omega)
  have w2 : IntKind.wrap .i64 (now - getInt c (0 + k * 5 + 1)) = now - getInt c (0 + k * 5 + 1):=wrap64_id (by omega) (by omega)
  have e4 : getInt c0 (0 + (getInt c (0 + k * 5)).toNat * 7 + 1 + 1 + 1 + 1) = getInt c0 (0 + (getInt c (0 + k * 5)).toNat * 7 + 4):=rfl
  unfold F77 rt77 knP
  simp only [RT.val,Int.toNat_natCast,Int.ofNat_eq_natCast,hki.1,hki.2,hs.1,hs.2,hr1,hr0,decide_true,Bool.and_self,cond_true,e4,w1,w2]
  by_cases h : getInt c (0 + k * 5 + 1) + getInt c0 (0 + (getInt c (0 + k * 5)).toNat * 7 + 3) ≤ now <;> simp only [h,decide_true,decide_false,cond_true,cond_false,Bool.true_and,Bool.false_and]
theorem F77_of (hv : Vld c0 0 n c 0 n2 age shear) (hk : k < n2) (h0 : 0 ≤ now) (h1 : now ≤ 100000) :
    F77_ok c0 0 n c 0 n2 c3 off3 n3 age shear (k : Int) now = true ∧ F77_0 c0 0 n c 0 n2 c3 off3 n3 age shear (k : Int) now = knP c0 0 c 0 now k:=by
  have h:=F77_eq (c3:=c3) (off3:=off3) (n3:=n3) hv hk h0 h1
  exact ⟨by simp [F77_ok,h],by simp [F77_0,h]⟩
def dbH (c0 c : Array Value) (age shear lo tick : Int) (k : Nat) : Int :=
  getInt c0 (0 + (getInt c (0 + k * 5)).toNat * 7 + 2) + age * begunI (absI (getInt c (0 + k * 5 + 1)) tick) 600 + shear * begunI (absI (getInt c (0 + k * 5 + 2)) lo) 100000
theorem F113_eq (a b d : Int) (h : d ≠ 0) : F113_0 a b d = IntKind.wrap .i64 (Int.tdiv (IntKind.wrap .i64 ((IntKind.wrap .i64 ((max (IntKind.wrap .i64 (a - b)) (IntKind.wrap .i64 (b - a))) + d)) - (1 : Int))) d):=by
  simp [F113_0,F113,rt113,RT.val,h]
theorem rdOk_int2 {c : Array Value} {i : Nat} (h : rdOk c L7 i = true) : isInt .i64 c (i + 2) = true:=by
  simp only [rdOk,rdLeaf,Bool.and_eq_true] at h
  exact h.2.2.1
theorem F79_eq {lo tick : Int} (hv : Vld c0 0 n c 0 n2 age shear) (hk : k < n2) (l0 : 0 ≤ lo) (l1 : lo ≤ 100000000) (t0 : 0 ≤ tick) (t1 : tick ≤ 100000) :
    F79 c0 0 n c 0 n2 c3 off3 n3 age shear (k : Int) lo tick = some ⟨dbH c0 c age shear lo tick k⟩:=by
  have hs:=hv.src k hk
  have hi : (getInt c (0 + k * 5)).toNat < n:=by omega
  have hr1:=row1 hv.g1 hk
  have hr0:=row0 hv.g0 hs.1 hs.2
  have hr2:=rdOk_int2 hr0
  have hki : (0 : Int) ≤ (k : Int) ∧ (k : Int) < (n2 : Int):=by omega
  have hd:=(db_core (hv.err _ hi).1 (hv.err _ hi).2 (hv.tick k hk).1 (hv.tick k hk).2 t0 t1 (hv.height k hk).1 (hv.height k hk).2 l0 l1 l0 l1 hv.age.1 hv.age.2 hv.shear.1 hv.shear.2).1
  rw [Int.max_self,Int.max_self] at hd
  have hd' : IntKind.wrap .i64 ((IntKind.wrap .i64 ((getInt c0 ((0 + ((getInt c (0 + k * 5)).toNat * 7)) + 2)) + (IntKind.wrap .i64 (age * (F113_0 (getInt c ((0 + (k * 5)) + 1)) tick (600 : Int)))))) + (IntKind.wrap .i64 (shear * (F113_0 (getInt c (((0 + (k * 5)) + 1) + 1)) lo (100000 : Int))))) = dbH c0 c age shear lo tick k:=by
    rw [F113_eq _ _ _ (by decide),F113_eq _ _ _ (by decide)]
    exact hd
  unfold F79 rt79
  simp only [RT.val,Int.toNat_natCast,Int.ofNat_eq_natCast,hki.1,hki.2,hs.1,hs.2,hr1,hr2,decide_true,Bool.and_self,cond_true,arrEq_self,hd']
theorem F79_of {lo tick : Int} (hv : Vld c0 0 n c 0 n2 age shear) (hk : k < n2) (l0 : 0 ≤ lo) (l1 : lo ≤ 100000000) (t0 : 0 ≤ tick) (t1 : tick ≤ 100000) :
    F79_ok c0 0 n c 0 n2 c3 off3 n3 age shear (k : Int) lo tick = true ∧ F79_0 c0 0 n c 0 n2 c3 off3 n3 age shear (k : Int) lo tick = dbH c0 c age shear lo tick k:=by
  have h:=F79_eq (c3:=c3) (off3:=off3) (n3:=n3) hv hk l0 l1 t0 t1
  exact ⟨by simp [F79_ok,h],by simp [F79_0,h]⟩
theorem dbH_max {lo hi tick : Int} (h : 0 ≤ shear) : max (dbH c0 c age shear lo tick k) (dbH c0 c age shear hi tick k) = dbI c0 0 c 0 age shear lo hi tick k:=by
  have mono : ∀ {a b : Int},0 ≤ a → a ≤ b → shear * begunI a 100000 ≤ shear * begunI b 100000:=by
    intro a b h0 h1
    refine Int.mul_le_mul_of_nonneg_left ?_ h
    unfold begunI
    rw [Int.tdiv_eq_ediv_of_nonneg (by omega),Int.tdiv_eq_ediv_of_nonneg (by omega)]
    exact Int.ediv_le_ediv (by omega) (by omega)
  unfold dbH dbI
  have p0 : 0 ≤ absI (getInt c (0 + k * 5 + 2)) lo:=by unfold absI; omega
  have p1 : 0 ≤ absI (getInt c (0 + k * 5 + 2)) hi:=by unfold absI; omega
  generalize absI (getInt c (0 + k * 5 + 2)) lo = A at *
  generalize absI (getInt c (0 + k * 5 + 2)) hi = B at *
  rcases Int.le_total A B with h1 | h1
  · have:=mono p0 h1
    rw [Int.max_eq_right h1]; omega
  · have:=mono p1 h1
    rw [Int.max_eq_left h1]; omega
end
end
end Go.Proofs.Ytjdidbnmkogflaa

namespace Go.Proofs.Ytjdidbnmkogflaa
open Go.Gi Go.RowKit Go.Proofs.Ytjdidbnmkogflaa.Old
noncomputable section
set_option maxRecDepth 100000
set_option linter.unusedSimpArgs false
section
variable {c0 c c3 : Array Value} {n n2 n3 off3 : Nat} {age shear now : Int} {k : Nat}
theorem F119_eq (a b x y : Int) : F119_0 a b x y = max a x ∧ F119_1 a b x y = min b y:=by
  simp [F119_0,F119_1,F119,rt119,RT.val]
theorem F120_eq (a b : Int) : F120_0 a b = IntKind.wrap .i64 (a - b) ∧ F120_1 a b = IntKind.wrap .i64 (a + b):=by
  simp [F120_0,F120_1,F120,rt120,RT.val]
def fold (c0 c : Array Value) (age shear lo hi tick now : Int) (g : Nat) (q : Int) (m k : Nat) (s : Hd) : Hd:=hdR c0 0 c 0 age shear lo hi tick now g q m k s
theorem loop85 {s lo hi tick : Int} (hv : Vld c0 0 n c 0 n2 age shear) (hq : Qst lo hi tick now) (b17 : Bool) (a18 a19 a20 a21 : Int) : ∀ (m k : Nat) (h : Hd),k + m = n2 →
    loopR rd85_0
      ⟨s,lo,hi,tick,now,(k : Int),c0,0,n,c,0,n2,c3,off3,n3,age,shear,b17,a18,a19,a20,a21,h.sm,h.xl,h.xh,h.yl,h.yh⟩ =
    some (.k0 c0 0 n c 0 n2 c3 off3 n3 age shear b17 a18 a19 a20 a21 (fold c0 c age shear lo hi tick now 117 s m k h).sm (fold c0 c age shear lo hi tick now 117 s m k h).xl (fold c0 c age shear lo hi tick now 117 s m k h).xh (fold c0 c age shear lo hi tick now 117 s m k h).yl (fold c0 c age shear lo hi tick now 117 s m k h).yh)
  | 0,k,h,e=>loopR_done (by
      have h1 : ¬ ((k : Int) < (n2 : Int)):=by omega
      simp only [rd85_0,RT.val,h1,Int.ofNat_eq_natCast,decide_false,cond_false]
      rfl)
  | m + 1,k,h,e=>by
    have hk : k < n2:=by omega
    have hm : n2 ≤ 60:=hv.few2
    have h3 : IntKind.wrap .i64 ((k : Int) + 1) = ((k + 1 : Nat) : Int):=by rw [wrap64_id (by omega) (by omega)]; omega
    have hki : (k : Int) < (n2 : Int) ∧ (0 : Int) ≤ (k : Int):=by omega
    have hr1 : rdOk c [(Leaf.int .i64),(Leaf.int .i64),(Leaf.int .i64),(Leaf.int .i64),(Leaf.int .i64)] (0 + k * 5) = true:=row1 hv.g1 hk
    obtain ⟨f1,f2⟩:=F77_of (c3:=c3) (off3:=off3) (n3:=n3) hv hk hq.now.1 hq.now.2
    obtain ⟨f3,f4⟩:=F79_of (c3:=c3) (off3:=off3) (n3:=n3) hv hk hq.lo.1 hq.lo.2 hq.tick.1 hq.tick.2
    obtain ⟨f5,f6⟩:=F79_of (c3:=c3) (off3:=off3) (n3:=n3) hv hk hq.hi.1 hq.hi.2 hq.tick.1 hq.tick.2
    have hx:=hv.x k hk
    have hy:=hv.y k hk
    have hd:=(dbW_eq hv hq hk).2
    have hmx:=dbH_max (c0:=c0) (c:=c) (age:=age) (k:=k) (lo:=lo) (hi:=hi) (tick:=tick) hv.shear.1
    have wx1 : IntKind.wrap .i64 (getInt c (0 + k * 5 + 1 + 1 + 1) - dbI c0 0 c 0 age shear lo hi tick k) = getInt c (0 + k * 5 + 3) - dbI c0 0 c 0 age shear lo hi tick k:=wrap64_id (x:=getInt c (0 + k * 5 + 3) - dbI c0 0 c 0 age shear lo hi tick k) (by omega) (by omega)
    have wx2 : IntKind.wrap .i64 (getInt c (0 + k * 5 + 1 + 1 + 1) + dbI c0 0 c 0 age shear lo hi tick k) = getInt c (0 + k * 5 + 3) + dbI c0 0 c 0 age shear lo hi tick k:=wrap64_id (x:=getInt c (0 + k * 5 + 3) + dbI c0 0 c 0 age shear lo hi tick k) (by omega) (by omega)
    have wy1 : IntKind.wrap .i64 (getInt c (0 + k * 5 + 1 + 1 + 1 + 1) - dbI c0 0 c 0 age shear lo hi tick k) = getInt c (0 + k * 5 + 4) - dbI c0 0 c 0 age shear lo hi tick k:=wrap64_id (x:=getInt c (0 + k * 5 + 4) - dbI c0 0 c 0 age shear lo hi tick k) (by omega) (by omega)
    have wy2 : IntKind.wrap .i64 (getInt c (0 + k * 5 + 1 + 1 + 1 + 1) + dbI c0 0 c 0 age shear lo hi tick k) = getInt c (0 + k * 5 + 4) + dbI c0 0 c 0 age shear lo hi tick k:=wrap64_id (x:=getInt c (0 + k * 5 + 4) + dbI c0 0 c 0 age shear lo hi tick k) (by omega) (by omega)
    by_cases hs : getInt c (0 + k * 5) = s
    · by_cases hkn : knP c0 0 c 0 now k = true
      · have e1 : fold c0 c age shear lo hi tick now 117 s (m + 1) k h = fold c0 c age shear lo hi tick now 117 s m (k + 1) ⟨max h.xl (getInt c (0 + k * 5 + 3) - dbI c0 0 c 0 age shear lo hi tick k),min h.xh (getInt c (0 + k * 5 + 3) + dbI c0 0 c 0 age shear lo hi tick k),
          max h.yl (getInt c (0 + k * 5 + 4) - dbI c0 0 c 0 age shear lo hi tick k),min h.yh (getInt c (0 + k * 5 + 4) + dbI c0 0 c 0 age shear lo hi tick k),true⟩:=by
          unfold fold
          rw [hdR,if_pos ⟨hkn,by simp only [chB,hs,decide_true]⟩]
        rw [e1]
        refine (loopR_next ?_).trans (loop85 hv hq b17 a18 a19 a20 a21 m (k + 1) ⟨_,_,_,_,_⟩ (by omega))
        simp only [rd85_0,RT.val,Int.toNat_natCast,Int.ofNat_eq_natCast,hki.1,hki.2,hr1,hs,f1,f2,f3,f4,f5,f6,hkn,arrEq_self,decide_true,Bool.and_self,Bool.not_true,cond_true,cond_false,h3,hmx,(F119_eq _ _ _ _).1,(F119_eq _ _ _ _).2,(F120_eq _ _).1,(F120_eq _ _).2,wx1,wx2,wy1,wy2]
      · rw [Bool.not_eq_true] at hkn
        have e1 : fold c0 c age shear lo hi tick now 117 s (m + 1) k h = fold c0 c age shear lo hi tick now 117 s m (k + 1) h:=by
          unfold fold
          rw [hdR,if_neg (by simp [hkn])]
        rw [e1]
        refine (loopR_next ?_).trans (loop85 hv hq b17 a18 a19 a20 a21 m (k + 1) h (by omega))
        simp only [rd85_0,RT.val,Int.toNat_natCast,Int.ofNat_eq_natCast,hki.1,hki.2,hr1,hs,f1,f2,hkn,decide_true,Bool.and_self,Bool.not_true,Bool.not_false,cond_true,cond_false,h3]
    · have e1 : fold c0 c age shear lo hi tick now 117 s (m + 1) k h = fold c0 c age shear lo hi tick now 117 s m (k + 1) h:=by
        unfold fold
        rw [hdR,if_neg (by simp only [chB,hs,decide_false]; simp)]
      rw [e1]
      refine (loopR_next ?_).trans (loop85 hv hq b17 a18 a19 a20 a21 m (k + 1) h (by omega))
      simp only [rd85_0,RT.val,Int.toNat_natCast,Int.ofNat_eq_natCast,hki.1,hki.2,hr1,hs,decide_true,decide_false,Bool.and_self,Bool.not_false,cond_true,cond_false,h3]
def sayH (c0 c : Array Value) (n2 : Nat) (age shear lo hi tick now : Int) (g : Nat) (q : Int) : Hd:=fold c0 c age shear lo hi tick now g q n2 0 ⟨-20000,20000,-20000,20000,false⟩
theorem F85_eq {s lo hi tick : Int} (hv : Vld c0 0 n c 0 n2 age shear) (hq : Qst lo hi tick now) :
    F85 c0 0 n c 0 n2 c3 off3 n3 age shear s lo hi tick now = some ⟨(sayH c0 c n2 age shear lo hi tick now 117 s).sm,(sayH c0 c n2 age shear lo hi tick now 117 s).xl,(sayH c0 c n2 age shear lo hi tick now 117 s).xh,
      (sayH c0 c n2 age shear lo hi tick now 117 s).yl,(sayH c0 c n2 age shear lo hi tick now 117 s).yh⟩:=by
  have hL:=loop85 (c3:=c3) (off3:=off3) (n3:=n3) (s:=s) hv hq false 0 0 0 0 n2 0 ⟨-20000,20000,-20000,20000,false⟩ (by omega)
  have hL' : L85_0 ⟨s,lo,hi,tick,now,0,c0,0,n,c,0,n2,c3,off3,n3,age,shear,false,0,0,0,0,false,-20000,20000,-20000,20000⟩ = _:=hL
  unfold F85 rt85
  simp only [RT.val,eqCode_self,cond_true,L85_0_k0,L85_0_k0_16,L85_0_k0_17,L85_0_k0_18,L85_0_k0_19,L85_0_k0_20,hL',sayH]
theorem F85_of {s lo hi tick : Int} (hv : Vld c0 0 n c 0 n2 age shear) (hq : Qst lo hi tick now) :
    F85_ok c0 0 n c 0 n2 c3 off3 n3 age shear s lo hi tick now = true ∧ F85_0 c0 0 n c 0 n2 c3 off3 n3 age shear s lo hi tick now = (sayH c0 c n2 age shear lo hi tick now 117 s).sm ∧
    F85_1 c0 0 n c 0 n2 c3 off3 n3 age shear s lo hi tick now = (sayH c0 c n2 age shear lo hi tick now 117 s).xl ∧ F85_2 c0 0 n c 0 n2 c3 off3 n3 age shear s lo hi tick now = (sayH c0 c n2 age shear lo hi tick now 117 s).xh ∧
    F85_3 c0 0 n c 0 n2 c3 off3 n3 age shear s lo hi tick now = (sayH c0 c n2 age shear lo hi tick now 117 s).yl ∧ F85_4 c0 0 n c 0 n2 c3 off3 n3 age shear s lo hi tick now = (sayH c0 c n2 age shear lo hi tick now 117 s).yh:=by
  have h:=F85_eq (c3:=c3) (off3:=off3) (n3:=n3) (s:=s) hv hq
  exact ⟨by simp [F85_ok,h],by simp [F85_0,h],by simp [F85_1,h],by simp [F85_2,h],by simp [F85_3,h],by simp [F85_4,h]⟩
end
end
end Go.Proofs.Ytjdidbnmkogflaa

namespace Go.Proofs.Ytjdidbnmkogflaa
open Go.Gi Go.RowKit Go.Proofs.Ytjdidbnmkogflaa.Old
noncomputable section
set_option maxRecDepth 100000
def comb (a b : Hd) : Hd:=⟨max a.xl b.xl,min a.xh b.xh,max a.yl b.yl,min a.yh b.yh,a.sm || b.sm⟩
def bot : Hd:=⟨-20000,20000,-20000,20000,false⟩
section
variable (c0 c : Array Value) (age shear lo hi tick now : Int)
def upd (k : Nat) (s : Hd) : Hd :=
  ⟨max s.xl (getInt c (0 + k * 5 + 3) - dbI c0 0 c 0 age shear lo hi tick k),min s.xh (getInt c (0 + k * 5 + 3) + dbI c0 0 c 0 age shear lo hi tick k),
   max s.yl (getInt c (0 + k * 5 + 4) - dbI c0 0 c 0 age shear lo hi tick k),min s.yh (getInt c (0 + k * 5 + 4) + dbI c0 0 c 0 age shear lo hi tick k),true⟩
def hdP (p : Int → Bool) : Nat → Nat → Hd → Hd
  | 0,_,s=>s
  | m + 1,k,s=>hdP p m (k + 1) (if knP c0 0 c 0 now k = true ∧ p (getInt c (0 + k * 5)) = true then upd c0 c age shear lo hi tick k s else s)
theorem hdP_of (g : Nat) (q : Int) : ∀ (m k : Nat) (s : Hd),fold c0 c age shear lo hi tick now g q m k s = hdP c0 c age shear lo hi tick now (chB g q) m k s
  | 0,k,s=>by unfold fold hdP hdR; rfl
  | m + 1,k,s=>by
    have h:=hdP_of g q m (k + 1)
    unfold fold at h ⊢
    unfold hdP hdR
    rw [h]
    rfl
theorem hdP_congr {p q : Int → Bool} : ∀ (m k : Nat) (s : Hd),(∀ i,k ≤ i → i < k + m → p (getInt c (0 + i * 5)) = q (getInt c (0 + i * 5))) → hdP c0 c age shear lo hi tick now p m k s = hdP c0 c age shear lo hi tick now q m k s
  | 0,_,_,_=>rfl
  | m + 1,k,s,h=>by
    unfold hdP
    rw [h k (Nat.le_refl _) (by omega)]
    exact hdP_congr m (k + 1) _ fun i h1 h2=>h i (by omega) (by omega)
theorem upd_comb2 (k : Nat) (a b : Hd) : comb (upd c0 c age shear lo hi tick k a) (upd c0 c age shear lo hi tick k b) = upd c0 c age shear lo hi tick k (comb a b):=by
  simp only [comb,upd,Hd.mk.injEq,Bool.or_self,and_true]
  refine ⟨?_,?_,?_,?_⟩ <;> omega
theorem upd_combL (k : Nat) (a b : Hd) : comb (upd c0 c age shear lo hi tick k a) b = upd c0 c age shear lo hi tick k (comb a b):=by
  simp only [comb,upd,Hd.mk.injEq,Bool.true_or,and_true]
  refine ⟨?_,?_,?_,?_⟩ <;> omega
theorem upd_combR (k : Nat) (a b : Hd) : comb a (upd c0 c age shear lo hi tick k b) = upd c0 c age shear lo hi tick k (comb a b):=by
  simp only [comb,upd,Hd.mk.injEq,Bool.or_true,and_true]
  refine ⟨?_,?_,?_,?_⟩ <;> omega
theorem hdP_or {p q : Int → Bool} : ∀ (m k : Nat) (a b : Hd),comb (hdP c0 c age shear lo hi tick now p m k a) (hdP c0 c age shear lo hi tick now q m k b) = hdP c0 c age shear lo hi tick now (fun s=>p s || q s) m k (comb a b)
  | 0,_,_,_=>rfl
  | m + 1,k,a,b=>by
    unfold hdP
    rw [hdP_or m (k + 1)]
    congr 1
    by_cases h0 : knP c0 0 c 0 now k = true
    · by_cases h1 : p (getInt c (0 + k * 5)) = true <;> by_cases h2 : q (getInt c (0 + k * 5)) = true
      · rw [if_pos ⟨h0,h1⟩,if_pos ⟨h0,h2⟩,if_pos ⟨h0,by rw [h1,Bool.true_or]⟩,upd_comb2]
      · rw [if_pos ⟨h0,h1⟩,if_neg (fun h=>h2 h.2),if_pos ⟨h0,by rw [h1,Bool.true_or]⟩,upd_combL]
      · rw [if_neg (fun h=>h1 h.2),if_pos ⟨h0,h2⟩,if_pos ⟨h0,by rw [h2,Bool.or_true]⟩,upd_combR]
      · rw [if_neg (fun h=>h1 h.2),if_neg (fun h=>h2 h.2),if_neg (fun h=>by rw [Bool.or_eq_true] at h; exact h.2.elim h1 h2)]
    · rw [if_neg (fun h=>h0 h.1),if_neg (fun h=>h0 h.1),if_neg (fun h=>h0 h.1)]
theorem comb_bot : comb bot bot = bot:=by simp [comb,bot]
theorem hdP_sm {p : Int → Bool} : ∀ (m k : Nat) (s : Hd),s.sm = true → (hdP c0 c age shear lo hi tick now p m k s).sm = true
  | 0,_,_,h=>h
  | m + 1,k,s,h=>by
    unfold hdP
    split
    · exact hdP_sm m (k + 1) _ rfl
    · exact hdP_sm m (k + 1) _ h
theorem hdP_none {p : Int → Bool} : ∀ (m k : Nat) (s : Hd),(hdP c0 c age shear lo hi tick now p m k s).sm = false → hdP c0 c age shear lo hi tick now p m k s = s
  | 0,_,_,_=>rfl
  | m + 1,k,s,h=>by
    unfold hdP at h ⊢
    split
    · rename_i h1
      rw [if_pos h1] at h
      rw [hdP_sm c0 c age shear lo hi tick now m (k + 1) _ rfl] at h
      cases h
    · rename_i h1
      rw [if_neg h1] at h
      exact hdP_none m (k + 1) _ h
end
end
end Go.Proofs.Ytjdidbnmkogflaa

namespace Go.Proofs.Ytjdidbnmkogflaa
open Go.Gi Go.RowKit Go.Proofs.Ytjdidbnmkogflaa.Old
noncomputable section
set_option maxRecDepth 100000
set_option linter.unusedSimpArgs false
section
variable {c0 c c3 : Array Value} {n n2 n3 off3 : Nat} {age shear lo hi tick now : Int}
def all (c0 c : Array Value) (n2 : Nat) (age shear lo hi tick now : Int) (p : Int → Bool) : Hd:=hdP c0 c age shear lo hi tick now p n2 0 bot
theorem all_or (p q : Int → Bool) : comb (all c0 c n2 age shear lo hi tick now p) (all c0 c n2 age shear lo hi tick now q) = all c0 c n2 age shear lo hi tick now (fun s=>p s || q s):=by
  unfold all
  rw [hdP_or,comb_bot]
theorem all_congr {p q : Int → Bool} (h : ∀ i,i < n2 → p (getInt c (0 + i * 5)) = q (getInt c (0 + i * 5))) : all c0 c n2 age shear lo hi tick now p = all c0 c n2 age shear lo hi tick now q :=
  hdP_congr c0 c age shear lo hi tick now n2 0 bot fun i _ h1=>h i (by omega)
theorem all_false : ∀ (m k : Nat) (s : Hd),hdP c0 c age shear lo hi tick now (fun _=>false) m k s = s
  | 0,_,_=>rfl
  | m + 1,k,s=>by
    unfold hdP
    rw [if_neg (fun h=>by cases h.2)]
    exact all_false m (k + 1) s
theorem all_bot (p : Int → Bool) : comb (all c0 c n2 age shear lo hi tick now p) bot = all c0 c n2 age shear lo hi tick now p:=by
  have h:=all_or (c0:=c0) (c:=c) (n2:=n2) (age:=age) (shear:=shear) (lo:=lo) (hi:=hi) (tick:=tick) (now:=now) p (fun _=>false)
  rw [show all c0 c n2 age shear lo hi tick now (fun _=>false) = bot from all_false n2 0 bot] at h
  rw [h]
  exact all_congr fun i _=>by simp
theorem sayH_all (s : Int) : sayH c0 c n2 age shear lo hi tick now 117 s = all c0 c n2 age shear lo hi tick now (fun x=>decide (x = s)):=by
  unfold sayH all
  rw [hdP_of]; rfl
def left (n : Nat) (out : Int) (k : Nat) (p : Int → Bool) : Int → Bool:=fun s=>p s || (decide ((k : Int) ≤ s) && (decide (s < (n : Int)) && !decide (s = out)))
theorem left_done (out : Int) (p : Int → Bool) : left n out n p = p:=by
  funext s
  unfold left
  by_cases h : (n : Int) ≤ s
  · rw [decide_eq_false (show ¬ s < (n : Int) by omega)]; simp
  · rw [decide_eq_false h]; simp
theorem left_skip {k : Nat} (p : Int → Bool) : left n (k : Int) k p = left n (k : Int) (k + 1) p:=by
  funext s
  unfold left
  by_cases h : s = (k : Int)
  · rw [decide_eq_true h]; simp
  · have : decide ((k : Int) ≤ s) = decide (((k + 1 : Nat) : Int) ≤ s):=by
      rw [decide_eq_decide]; omega
    rw [this]
theorem left_take {k : Nat} {out : Int} (hk : k < n) (ho : (k : Int) ≠ out) (p : Int → Bool) : left n out k p = left n out (k + 1) (fun s=>p s || decide (s = (k : Int))):=by
  funext s
  unfold left
  by_cases h : s = (k : Int)
  · subst h
    rw [decide_eq_false ho,decide_eq_true (show ((k : Nat) : Int) < (n : Int) by omega)]; simp
  · have : decide ((k : Int) ≤ s) = decide (((k + 1 : Nat) : Int) ≤ s):=by
      rw [decide_eq_decide]; omega
    simp only [this,decide_eq_false h,Bool.or_false]
theorem loop122 {out : Int} (hv : Vld c0 0 n c 0 n2 age shear) (hq : Qst lo hi tick now) (a17 a18 a19 a20 : Int) : ∀ (m k : Nat) (p : Int → Bool),k + m = n →
    loopR rd122_0
      ⟨out,lo,hi,tick,now,(k : Int),c0,0,n,c,0,n2,c3,off3,n3,age,shear,a17,a18,a19,a20,(all c0 c n2 age shear lo hi tick now p).xl,(all c0 c n2 age shear lo hi tick now p).xh,(all c0 c n2 age shear lo hi tick now p).yl,(all c0 c n2 age shear lo hi tick now p).yh⟩ =
    some (.k0 c0 0 n c 0 n2 c3 off3 n3 age shear a17 a18 a19 a20 (all c0 c n2 age shear lo hi tick now (left n out k p)).xl (all c0 c n2 age shear lo hi tick now (left n out k p)).xh (all c0 c n2 age shear lo hi tick now (left n out k p)).yl (all c0 c n2 age shear lo hi tick now (left n out k p)).yh)
  | 0,k,p,e=>loopR_done (by
      obtain rfl : k = n:=by omega
      have h1 : ¬ ((k : Int) < (k : Int)):=by omega
      simp only [rd122_0,RT.val,h1,Int.ofNat_eq_natCast,decide_false,cond_false,left_done])
  | m + 1,k,p,e=>by
    have hk : k < n:=by omega
    have hm : n ≤ 6:=hv.few
    have h3 : IntKind.wrap .i64 ((k : Int) + 1) = ((k + 1 : Nat) : Int):=by rw [wrap64_id (by omega) (by omega)]; omega
    have hki : (k : Int) < (n : Int):=by omega
    obtain ⟨f0,f1,f2,f3,f4,f5⟩:=F85_of (c3:=c3) (off3:=off3) (n3:=n3) (s:=(k : Int)) hv hq
    rw [sayH_all] at f1 f2 f3 f4 f5
    by_cases ho : (k : Int) = out
    · subst ho
      rw [left_skip]
      refine (loopR_next ?_).trans (loop122 hv hq a17 a18 a19 a20 m (k + 1) p (by omega))
      simp only [rd122_0,RT.val,Int.ofNat_eq_natCast,hki,f0,decide_true,Bool.not_true,cond_true,cond_false,h3]
    · rw [left_take hk ho]
      refine (loopR_next ?_).trans (loop122 hv hq a17 a18 a19 a20 m (k + 1) (fun s=>p s || decide (s = (k : Int))) (by omega))
      rw [← all_or]
      by_cases hs : (all c0 c n2 age shear lo hi tick now (fun x=>decide (x = (k : Int)))).sm = true
      · rw [hs] at f1
        simp only [rd122_0,RT.val,Int.ofNat_eq_natCast,hki,f0,f1,f2,f3,f4,f5,ho,decide_true,decide_false,Bool.not_false,Bool.not_true,cond_true,cond_false,h3,(F119_eq _ _ _ _).1,(F119_eq _ _ _ _).2,comb]
      · rw [Bool.not_eq_true] at hs
        rw [hs] at f1
        rw [show all c0 c n2 age shear lo hi tick now (fun x=>decide (x = (k : Int))) = bot from hdP_none c0 c age shear lo hi tick now n2 0 bot hs,all_bot]
        simp only [rd122_0,RT.val,Int.ofNat_eq_natCast,hki,f0,f1,ho,decide_true,decide_false,Bool.not_false,Bool.not_true,cond_true,cond_false,h3]
theorem F86_eq (a b : Int) : F86_0 a b = decide (b < a):=by simp [F86_0,F86,rt86,RT.val]
theorem F122_eq {out : Int} (hv : Vld c0 0 n c 0 n2 age shear) (hq : Qst lo hi tick now) : F122 c0 0 n c 0 n2 c3 off3 n3 age shear out lo hi tick now =
    some ⟨(all c0 c n2 age shear lo hi tick now (chB 128 out)).xl,(all c0 c n2 age shear lo hi tick now (chB 128 out)).xh,(all c0 c n2 age shear lo hi tick now (chB 128 out)).yl,(all c0 c n2 age shear lo hi tick now (chB 128 out)).yh,
      !decide ((all c0 c n2 age shear lo hi tick now (chB 128 out)).xh < (all c0 c n2 age shear lo hi tick now (chB 128 out)).xl) && !decide ((all c0 c n2 age shear lo hi tick now (chB 128 out)).yh < (all c0 c n2 age shear lo hi tick now (chB 128 out)).yl)⟩:=by
  have hc : all c0 c n2 age shear lo hi tick now (left n out 0 (fun _=>false)) = all c0 c n2 age shear lo hi tick now (chB 128 out):=all_congr fun i hi=>by
    have hs:=hv.src i hi
    unfold left chB
    rw [decide_eq_true (show (((0 : Nat) : Int) ≤ getInt c (0 + i * 5)) by omega),decide_eq_true hs.2]; simp
  have hL:=loop122 (c3:=c3) (off3:=off3) (n3:=n3) (out:=out) hv hq 0 0 0 0 n 0 (fun _=>false) (by omega)
  rw [hc,show all c0 c n2 age shear lo hi tick now (fun _=>false) = bot from all_false n2 0 bot] at hL
  have hL' : L122_0 ⟨out,lo,hi,tick,now,0,c0,0,n,c,0,n2,c3,off3,n3,age,shear,0,0,0,0,-20000,20000,-20000,20000⟩ = _:=hL
  unfold F122 rt122
  generalize all c0 c n2 age shear lo hi tick now (chB 128 out) = G at *
  have k1 : L122_0_k0 ⟨out,lo,hi,tick,now,0,c0,0,n,c,0,n2,c3,off3,n3,age,shear,0,0,0,0,-20000,20000,-20000,20000⟩ = true:=by simp only [L122_0_k0,hL']
  have k2 : L122_0_k0_15 ⟨out,lo,hi,tick,now,0,c0,0,n,c,0,n2,c3,off3,n3,age,shear,0,0,0,0,-20000,20000,-20000,20000⟩ = G.xl:=by simp only [L122_0_k0_15,hL']
  have k3 : L122_0_k0_16 ⟨out,lo,hi,tick,now,0,c0,0,n,c,0,n2,c3,off3,n3,age,shear,0,0,0,0,-20000,20000,-20000,20000⟩ = G.xh:=by simp only [L122_0_k0_16,hL']
  have k4 : L122_0_k0_17 ⟨out,lo,hi,tick,now,0,c0,0,n,c,0,n2,c3,off3,n3,age,shear,0,0,0,0,-20000,20000,-20000,20000⟩ = G.yl:=by simp only [L122_0_k0_17,hL']
  have k5 : L122_0_k0_18 ⟨out,lo,hi,tick,now,0,c0,0,n,c,0,n2,c3,off3,n3,age,shear,0,0,0,0,-20000,20000,-20000,20000⟩ = G.yh:=by simp only [L122_0_k0_18,hL']
  simp only [RT.val,eqCode_self,cond_true,k1,k2,k3,k4,k5,F86_eq,decide_true]
  by_cases h : G.xh < G.xl <;> simp [h]
end
end
end Go.Proofs.Ytjdidbnmkogflaa

namespace Go.Proofs.Ytjdidbnmkogflaa
open Go.Gi Go.RowKit Go.Proofs.Ytjdidbnmkogflaa.Old
noncomputable section
set_option maxRecDepth 100000
section
variable {c0 c c3 : Array Value} {n n2 n3 off3 : Nat} {age shear lo hi tick now : Int}
theorem F81_fold {g : Nat} {q : Int} (hv : Vld c0 0 n c 0 n2 age shear) :
    hdR (arrOf (some ⟨0,0,none⟩) [obF n c0,obF n2 c,obF n3 c3]) 0 (arrOf (some ⟨1,0,none⟩) [obF n c0,obF n2 c,obF n3 c3]) 0 age shear lo hi tick now g q n2 0 bot = all c0 c n2 age shear lo hi tick now (chB g q):=by
  rcases Nat.eq_zero_or_pos n2 with rfl | h
  · rfl
  · have hs:=hv.src 0 h
    have e1 : obF n c0 = .cells c0 true:=by unfold obF; rw [if_neg (by omega)]
    have e2 : obF n2 c = .cells c true:=by unfold obF; rw [if_neg (by omega)]
    rw [e1,e2]
    unfold all
    rw [← hdP_of]
    rfl
theorem F81_of {g : Nat} {q : Int} (hv : Vld c0 0 n c 0 n2 age shear) :
    F81xl g q c0 0 n c 0 n2 c3 off3 n3 age shear lo hi tick now = (all c0 c n2 age shear lo hi tick now (chB g q)).xl ∧ F81xh g q c0 0 n c 0 n2 c3 off3 n3 age shear lo hi tick now = (all c0 c n2 age shear lo hi tick now (chB g q)).xh ∧
    F81yl g q c0 0 n c 0 n2 c3 off3 n3 age shear lo hi tick now = (all c0 c n2 age shear lo hi tick now (chB g q)).yl ∧ F81yh g q c0 0 n c 0 n2 c3 off3 n3 age shear lo hi tick now = (all c0 c n2 age shear lo hi tick now (chB g q)).yh:=by
  have h:=F81_fold (c3:=c3) (n3:=n3) (lo:=lo) (hi:=hi) (tick:=tick) (now:=now) (g:=g) (q:=q) hv
  exact ⟨congrArg Hd.xl h,congrArg Hd.xh h,congrArg Hd.yl h,congrArg Hd.yh h⟩
end
end
end Go.Proofs.Ytjdidbnmkogflaa

namespace Go.Proofs.Ytjdidbnmkogflaa
open Go.Gi Go.RowKit Go.Proofs.Ytjdidbnmkogflaa.Old
noncomputable section
set_option maxRecDepth 100000
theorem F63_eq (a b c : Int) : F63 a b c = some ⟨decide (b ≤ a) && decide (a ≤ c)⟩:=by
  unfold F63 rt63
  by_cases h : b ≤ a <;> simp [RT.val,h]
theorem F63_ok_eq (a b c : Int) : F63_ok a b c = true:=by simp [F63_ok,F63_eq]
theorem F63_0_eq (a b c : Int) : F63_0 a b c = (decide (b ≤ a) && decide (a ≤ c)):=by simp [F63_0,F63_eq]
theorem F76_eq (a : Int) : F76 a = some ⟨decide (0 ≤ a) && decide (a ≤ 100000)⟩:=by
  unfold F76 rt76
  simp [RT.val,F63_ok_eq,F63_0_eq]
theorem F76_ok_eq (a : Int) : F76_ok a = true:=by simp [F76_ok,F76_eq]
theorem F76_0_eq (a : Int) : F76_0 a = (decide (0 ≤ a) && decide (a ≤ 100000)):=by simp [F76_0,F76_eq]
theorem F74_eq (a : Int) : F74 a = some ⟨decide (0 ≤ a) && decide (a ≤ 100000)⟩:=by
  unfold F74 rt74
  by_cases h : 0 ≤ a <;> simp [RT.val,h]
theorem F74_ok_eq (a : Int) : F74_ok a = true:=by simp [F74_ok,F74_eq]
theorem F74_0_eq (a : Int) : F74_0 a = (decide (0 ≤ a) && decide (a ≤ 100000)):=by simp [F74_0,F74_eq]
theorem F91_eq (a b c d : Int) : F91 a b c d = some ⟨(decide (0 ≤ c) && decide (c ≤ 100000)) && (decide (0 ≤ d) && decide (d ≤ 100000))⟩:=by
  unfold F91 rt91
  by_cases h : (decide (0 ≤ c) && decide (c ≤ 100000)) = true <;> simp [RT.val,F74_ok_eq,F74_0_eq,h]
theorem F91_ok_eq (a b c d : Int) : F91_ok a b c d = true:=by simp [F91_ok,F91_eq]
theorem F91_0_eq (a b c d : Int) : F91_0 a b c d = ((decide (0 ≤ c) && decide (c ≤ 100000)) && (decide (0 ≤ d) && decide (d ≤ 100000))):=by simp [F91_0,F91_eq]
theorem rdOk_int1 {c : Array Value} {i : Nat} (h : rdOk c L1 i = true) : isInt .i64 c i = true:=by
  simpa [rdOk,rdLeaf] using h
def wLo (c : Array Value) (k : Int) : Int:=if 0 < k then getInt c (k - 1).toNat else 0
def wHi (c : Array Value) (k : Int) : Int:=IntKind.wrap .i64 (getInt c k.toNat - 1)
theorem GL.int {c : Array Value} {n i : Nat} (g : GL L1 1 c n) (h : i < n) : isInt .i64 c i = true:=by
  have:=g.good.2 i h
  simp only [Nat.zero_add,show L1.length = 1 from rfl,Nat.mul_one] at this
  exact rdOk_int1 this
theorem F94_eq {c1 c2 c3 : Array Value} {n1 n2 n3 : Nat} {age shear k : Int} (g : GL L1 1 c3 n3) (h0 : 0 ≤ k) (h1 : k < (n3 : Int)) : F94 c1 0 n1 c2 0 n2 c3 0 n3 age shear k = some ⟨wLo c3 k,wHi c3 k⟩:=by
  have hm : maxLen = 9223372036854775807:=rfl
  have hf:=g.few
  have hk : isInt .i64 c3 k.toNat = true:=g.int (by omega)
  unfold F94 rt94 wLo wHi
  by_cases h : 0 < k
  · have hw : IntKind.wrap .i64 (k - 1) = k - 1:=wrap64_id (by omega) (by omega)
    have h2 : (1 : Int) ≤ k:=by omega
    have h3 : k - 1 < (n3 : Int):=by omega
    have hk1 : isInt .i64 c3 (k.toNat - 1) = true:=g.int (by omega)
    simp [RT.val,h,hw,h2,h3,hk,hk1,h0,h1]
  · simp [RT.val,h,h0,h1,hk]
theorem F84_eq {c1 c2 c3 : Array Value} {n1 n2 n3 : Nat} {age shear k : Int} (g : GL L1 1 c3 n3) (h0 : 0 ≤ k) (h1 : k < (n3 : Int)) : F84 c1 0 n1 c2 0 n2 c3 0 n3 age shear k = some ⟨wLo c3 k,wHi c3 k⟩:=by
  have hm : maxLen = 9223372036854775807:=rfl
  have hf:=g.few
  have hk : isInt .i64 c3 k.toNat = true:=g.int (by omega)
  unfold F84 rt84 wLo wHi
  by_cases h : 0 < k
  · have hw : IntKind.wrap .i64 (k - 1) = k - 1:=wrap64_id (by omega) (by omega)
    have h2 : (1 : Int) ≤ k:=by omega
    have h3 : k - 1 < (n3 : Int):=by omega
    have hk1 : isInt .i64 c3 (k.toNat - 1) = true:=g.int (by omega)
    simp [RT.val,h,hw,h2,h3,hk,hk1,h0,h1]
  · simp [RT.val,h,h0,h1,hk]
theorem F94_of {c1 c2 c3 : Array Value} {n1 n2 n3 : Nat} {age shear k : Int} (g : GL L1 1 c3 n3) (h0 : 0 ≤ k) (h1 : k < (n3 : Int)) :
    F94_ok c1 0 n1 c2 0 n2 c3 0 n3 age shear k = true ∧ F94_0 c1 0 n1 c2 0 n2 c3 0 n3 age shear k = wLo c3 k ∧ F94_1 c1 0 n1 c2 0 n2 c3 0 n3 age shear k = wHi c3 k:=by
  have h:=F94_eq (c1:=c1) (c2:=c2) (n1:=n1) (n2:=n2) (age:=age) (shear:=shear) g h0 h1
  exact ⟨by simp [F94_ok,h],by simp [F94_0,h],by simp [F94_1,h]⟩
theorem F84_of {c1 c2 c3 : Array Value} {n1 n2 n3 : Nat} {age shear k : Int} (g : GL L1 1 c3 n3) (h0 : 0 ≤ k) (h1 : k < (n3 : Int)) :
    F84_ok c1 0 n1 c2 0 n2 c3 0 n3 age shear k = true ∧ F84_0 c1 0 n1 c2 0 n2 c3 0 n3 age shear k = wLo c3 k ∧ F84_1 c1 0 n1 c2 0 n2 c3 0 n3 age shear k = wHi c3 k:=by
  have h:=F84_eq (c1:=c1) (c2:=c2) (n1:=n1) (n2:=n2) (age:=age) (shear:=shear) g h0 h1
  exact ⟨by simp [F84_ok,h],by simp [F84_0,h],by simp [F84_1,h]⟩
def qErr (n3 : Nat) (k x y : Int) : Int :=
  if k < 0 ∨ (n3 : Int) ≤ k then 4 else if ((decide (0 ≤ x) && decide (x ≤ 100000)) && (decide (0 ≤ y) && decide (y ≤ 100000))) = true then 0 else 7
end
end Go.Proofs.Ytjdidbnmkogflaa

namespace Go.Proofs.Ytjdidbnmkogflaa
open Go.Gi Go.RowKit Go.Proofs.Ytjdidbnmkogflaa.Old
noncomputable section
set_option maxRecDepth 100000
set_option linter.unusedVariables false
section
variable {c0 c c3 : Array Value} {n n2 n3 : Nat} {age shear lo hi tick now : Int}
theorem arrF0 {o1 o2 : Ob} (h : 0 < n) : arrOf (some ⟨0,0,none⟩) [obF n c0,o1,o2] = c0:=by
  have e1 : obF n c0 = .cells c0 true:=by unfold obF; rw [if_neg (by omega)]
  rw [e1]; rfl
theorem arrF1 {o0 o2 : Ob} (h : 0 < n2) : arrOf (some ⟨1,0,none⟩) [o0,obF n2 c,o2] = c:=by
  have e1 : obF n2 c = .cells c true:=by unfold obF; rw [if_neg (by omega)]
  rw [e1]; rfl
theorem arrF2 {o0 o1 : Ob} (h : 0 < n3) : arrOf (some ⟨2,0,none⟩) [o0,o1,obF n3 c3] = c3:=by
  have e1 : obF n3 c3 = .cells c3 true:=by unfold obF; rw [if_neg (by omega)]
  rw [e1]; rfl
theorem vld (g1 : GL L7 7 c0 n) (g2 : GL L5 5 c n2) (g3 : GL L1 1 c3 n3) (h : F20_2 c0 0 n c 0 n2 c3 0 n3 age shear = 0) :
    Vld c0 0 n c 0 n2 age shear ∧ (1 ≤ n3 ∧ n3 ≤ 20) ∧ ∀ k,k < n3 → 1 ≤ getInt c3 k ∧ getInt c3 k ≤ 100000000:=by
  have hz:=ck_zero (show ck3 (some ⟨0,0,none⟩) (some ⟨1,0,none⟩) (some ⟨2,0,none⟩) n n2 n3 age shear [obF n c0,obF n2 c,obF n3 c3] = 0 from h)
  have hcut : ∀ k,k < n3 → 1 ≤ getInt c3 k ∧ getInt c3 k ≤ 100000000:=fun k hk=>by
    have:=hz.cut k hk
    rw [arrF2 (by omega)] at this
    have:=cut_of this
    rw [show offOf (some (Addr.mk 2 0 none)) + k = k from Nat.zero_add k] at this
    exact this
  have hsrc : ∀ k,k < n → srcE c0 0 k = 0:=fun k hk=>by
    have:=hz.src k hk
    rw [arrF0 (by omega)] at this
    exact this
  have hsnd : ∀ k,k < n2 → ∃ a0,sdE a0 0 n c 0 k = 0 ∧ (0 < n → a0 = c0):=fun k hk=>by
    have:=hz.snd k hk
    rw [arrF1 (by omega)] at this
    exact ⟨_,this,fun hn=>arrF0 hn⟩
  have hsnd' : ∀ k,k < n2 → sdE c0 0 n c 0 k = 0:=fun k hk=>by
    obtain ⟨a0,h1,h2⟩:=hsnd k hk
    have h3:=snd_of h1
    rw [← h2 (by omega)]
    exact h1
  have hsn : ∀ k,k < n2 → (getInt c (0 + k * 5)).toNat < n:=fun k hk=>by
    have:=snd_of (hsnd' k hk)
    omega
  refine ⟨⟨g1.good,g2.good,hz.few,hz.few2,hz.age,hz.shear,fun k hk=>?_,fun k hk=>?_,fun k hk=>?_,fun k hk=>?_,fun k hk=>?_,fun i hi=>?_,fun i hi=>?_,fun i hi=>?_⟩,⟨hz.some3,hz.few3⟩,hcut⟩
  · exact ⟨(snd_of (hsnd' k hk)).1,(snd_of (hsnd' k hk)).2.1⟩
  · have:=snd_of (hsnd' k hk); exact ⟨this.2.2.1,this.2.2.2.1⟩
  · have h1:=snd_of (hsnd' k hk)
    have h2:=src_of (hsrc _ (hsn k hk))
    exact ⟨Int.le_trans h2.2.2.2.2.2.2.1 h1.2.2.2.2.1,Int.le_trans h1.2.2.2.2.2.1 h2.2.2.2.2.2.2.2.2.2⟩
  · have:=snd_of (hsnd' k hk); exact ⟨this.2.2.2.2.2.2.1,this.2.2.2.2.2.2.2.1⟩
  · have:=snd_of (hsnd' k hk); exact ⟨this.2.2.2.2.2.2.2.2.1,this.2.2.2.2.2.2.2.2.2⟩
  · have:=src_of (hsrc i hi); exact ⟨this.1,this.2.1⟩
  · have:=src_of (hsrc i hi); exact ⟨this.2.2.1,this.2.2.2.1⟩
  · have:=src_of (hsrc i hi); exact ⟨this.2.2.2.2.1,this.2.2.2.2.2.1⟩
theorem qst {k x y : Int} (hcut : ∀ k,k < n3 → 1 ≤ getInt c3 k ∧ getInt c3 k ≤ 100000000) (h : qErr n3 k x y = 0) : Qst (wLo c3 k) (wHi c3 k) x y:=by
  unfold qErr at h
  split at h
  · omega
  rename_i h1
  split at h
  · rename_i h2
    simp only [Bool.and_eq_true,decide_eq_true_eq] at h2
    have hk:=hcut k.toNat (by omega)
    refine ⟨?_,?_,by omega,by omega⟩
    · unfold wLo
      split
      · have:=hcut (k - 1).toNat (by omega); omega
      · omega
    · unfold wHi
      rw [wrap64_id (by omega) (by omega)]; omega
  · omega
end
end
end Go.Proofs.Ytjdidbnmkogflaa

namespace Go.Proofs.Ytjdidbnmkogflaa
open Go.Gi Go.RowKit Go.Proofs.Ytjdidbnmkogflaa.Old
noncomputable section
set_option maxRecDepth 100000
set_option linter.unusedVariables false
set_option linter.unusedSimpArgs false
theorem F83_two (a b x y : Int) : F83 ⟨[.int .i64 a,.int .i64 b,.int .i64 x,.int .i64 y]⟩ 0 2 = some ⟨decide (b < a) || decide (y < x)⟩:=by
  have w0 : IntKind.wrap .i64 1 = 1:=by decide
  have w1 : IntKind.wrap .i64 2 = 2:=by decide
  have hL : L83_0 ⟨⟨[.int .i64 a,.int .i64 b,.int .i64 x,.int .i64 y]⟩,0,2,2,0⟩ = some (if (decide (b < a) || decide (y < x)) = true then .k0 true else .k1):=by
    unfold L83_0
    by_cases h : b < a
    · rw [if_pos (by simp [h])]
      refine loopR_done ?_
      simp [rd83_0,RT.val,rdOk,rdLeaf,isInt,getInt,lget,h]
    · refine (loopR_next (y:=⟨⟨[.int .i64 a,.int .i64 b,.int .i64 x,.int .i64 y]⟩,0,2,2,1⟩) ?_).trans ?_
      · simp [rd83_0,RT.val,rdOk,rdLeaf,isInt,getInt,lget,h,w0]
      · by_cases h2 : y < x
        · rw [if_pos (by simp [h2])]
          refine loopR_done ?_
          simp [rd83_0,RT.val,rdOk,rdLeaf,isInt,getInt,lget,h2]
        · rw [if_neg (by simp [h,h2])]
          refine (loopR_next (y:=⟨⟨[.int .i64 a,.int .i64 b,.int .i64 x,.int .i64 y]⟩,0,2,2,2⟩) ?_).trans ?_
          · simp [rd83_0,RT.val,rdOk,rdLeaf,isInt,getInt,lget,h2,w1]
          · refine loopR_done ?_
            simp [rd83_0,RT.val]
  unfold F83 rt83
  have e : L83_0 ⟨⟨[.int .i64 a,.int .i64 b,.int .i64 x,.int .i64 y]⟩,0,2,Int.ofNat 2,0⟩ = _:=hL
  by_cases h : (decide (b < a) || decide (y < x)) = true
  · rw [if_pos h] at e
    simp only [RT.val,eqCode_self,L83_0_k0,L83_0_k0_0,L83_0_k1,e,cond_true,h]
  · rw [if_neg h] at e
    rw [Bool.not_eq_true] at h
    simp only [RT.val,eqCode_self,L83_0_k0,L83_0_k0_0,L83_0_k1,e,cond_true,cond_false,h]
end
end Go.Proofs.Ytjdidbnmkogflaa

namespace Go.Proofs.Ytjdidbnmkogflaa
open Go.Gi Go.RowKit Go.Proofs.Ytjdidbnmkogflaa.Old
noncomputable section
def arrI (L : List Int) : Array Value:=⟨L.map (Value.int .i64)⟩
def encI (L : List Int) : Option (Array Value × Nat):=match L with
  | []=>none
  | a :: r=>some (arrI (a :: r),(a :: r).length)
theorem apB_arrI (L : List Int) (v : Int) : apB (Array.extract (arrI L) 0 (0 + (L.length * 1))) (Array.extract ⟨[(Value.int .i64 v)]⟩ 0 1) = arrI (L ++ [v]):=by
  simp only [apB,arrI,Nat.zero_add,Nat.mul_one,List.extract_toArray,List.map_append,List.map_cons,List.map_nil]
  simp [List.take_of_length_le]
theorem allFz_arrI (L : List Int) : allFz (arrI L) = true:=by
  simp only [allFz,arrI,List.all_map]
  exact List.all_eq_true.2 fun x _=>rfl
theorem size_arrI (L : List Int) : (arrI L).size = L.length:=by simp [arrI]
theorem isInt_arrI (L : List Int) {i : Nat} (h : i < L.length) : isInt .i64 (arrI L) (0 + i) = true:=by
  simp [isInt,arrI,lget_eq,h]
end
end Go.Proofs.Ytjdidbnmkogflaa

namespace Go.Proofs.Ytjdidbnmkogflaa
open Go.Gi Go.RowKit Go.Proofs.Ytjdidbnmkogflaa.Old
noncomputable section
set_option maxRecDepth 100000
set_option linter.unusedVariables false
set_option linter.unusedSimpArgs false
theorem F83_of (a b x y : Int) : F83_ok ⟨[.int .i64 a,.int .i64 b,.int .i64 x,.int .i64 y]⟩ 0 2 = true ∧ F83_0 ⟨[.int .i64 a,.int .i64 b,.int .i64 x,.int .i64 y]⟩ 0 2 = (decide (b < a) || decide (y < x)):=by
  have h:=F83_two a b x y
  exact ⟨by simp [F83_ok,h],by simp [F83_0,h]⟩
theorem F121_eq (i : Int) : F121_0 i = i:=by simp [F121_0,F121,rt121,RT.val]
section
variable {c0 c c3 : Array Value} {n n2 n3 : Nat} {age shear lo hi tick now : Int}
def emp (h : Hd) : Bool:=decide (h.xh < h.xl) || decide (h.yh < h.yl)
def cul (c0 c : Array Value) (n2 : Nat) (age shear lo hi tick now : Int) : Nat → Nat → List Int
  | 0,_=>[]
  | m + 1,k=>if emp (all c0 c n2 age shear lo hi tick now (chB 128 (k : Int))) = true then cul c0 c n2 age shear lo hi tick now m (k + 1) else (k : Int) :: cul c0 c n2 age shear lo hi tick now m (k + 1)
theorem loop89 (hv : Vld c0 0 n c 0 n2 age shear) (hok : F81ok c0 0 n c 0 n2 c3 0 n3 age shear lo hi tick now = true) : ∀ (m k : Nat) (L : List Int),k + m = n → L.length ≤ k →
    loopR rd89_0
      ⟨encI L,(n : Int),(k : Int),c0,0,n,c,0,n2,c3,0,n3,age,shear,lo,hi,tick,now⟩ =
    some (.k0 (arrI (L ++ cul c0 c n2 age shear lo hi tick now m k)) 0 (L ++ cul c0 c n2 age shear lo hi tick now m k).length c0 0 n c 0 n2 c3 0 n3 age shear lo hi tick now)
  | 0,k,L,e,hl=>loopR_done (by
      obtain rfl : k = n:=by omega
      have h1 : ¬ ((k : Int) < (k : Int)):=by omega
      cases L with
      | nil=>simp only [rd89_0,encI,RT.val,h1,decide_false,cond_false]; rfl
      | cons a r =>
        simp only [rd89_0,encI,RT.val,h1,decide_false,cond_false,cond_true,allFz_arrI,size_arrI,Nat.zero_add,Nat.mul_one,Nat.le_refl,decide_true,Bool.and_self,cul,List.append_nil])
  | m + 1,k,L,e,hl=>by
    have hm : n ≤ 6:=hv.few
    have hki : (k : Int) < (n : Int):=by omega
    have h3 : IntKind.wrap .i64 ((k : Int) + 1) = ((k + 1 : Nat) : Int):=by rw [wrap64_id (by omega) (by omega)]; omega
    obtain ⟨f1,f2,f3,f4⟩:=F81_of (c3:=c3) (off3:=0) (n3:=n3) (lo:=lo) (hi:=hi) (tick:=tick) (now:=now) (g:=128) (q:=(k : Int)) hv
    by_cases he : emp (all c0 c n2 age shear lo hi tick now (chB 128 (k : Int))) = true
    · rw [show cul c0 c n2 age shear lo hi tick now (m + 1) k = cul c0 c n2 age shear lo hi tick now m (k + 1) from by rw [cul,if_pos he]]
      refine (loopR_next ?_).trans (loop89 hv hok m (k + 1) L (by omega) (by omega))
      unfold emp at he
      cases L with
      | nil=>simp only [rd89_0,encI,RT.val,hki,hok,F121_eq,f1,f2,f3,f4,(F83_of _ _ _ _).1,(F83_of _ _ _ _).2,arrEq_self,decide_true,Bool.and_self,cond_true,he,Bool.not_true,cond_false,h3]
      | cons a r=>simp only [rd89_0,encI,RT.val,hki,hok,F121_eq,f1,f2,f3,f4,(F83_of _ _ _ _).1,(F83_of _ _ _ _).2,arrEq_self,decide_true,Bool.and_self,cond_true,he,Bool.not_true,cond_false,h3,allFz_arrI]
    · rw [show cul c0 c n2 age shear lo hi tick now (m + 1) k = (k : Int) :: cul c0 c n2 age shear lo hi tick now m (k + 1) from by rw [cul,if_neg he]]
      rw [show L ++ (k : Int) :: cul c0 c n2 age shear lo hi tick now m (k + 1) = (L ++ [(k : Int)]) ++ cul c0 c n2 age shear lo hi tick now m (k + 1) from by simp]
      refine (loopR_next ?_).trans (loop89 hv hok m (k + 1) (L ++ [(k : Int)]) (by omega) (by simp; omega))
      unfold emp at he
      rw [Bool.not_eq_true] at he
      cases L with
      | nil =>
        simp only [rd89_0,encI,RT.val,hki,hok,F121_eq,f1,f2,f3,f4,(F83_of _ _ _ _).1,(F83_of _ _ _ _).2,arrEq_self,decide_true,Bool.and_self,cond_true,he,Bool.not_false,cond_false,h3]
        rfl
      | cons a r =>
        have hb:=apB_arrI (a :: r) (k : Int)
        have hl1 : ((a :: r).length + 1) * 8 ≤ 140737488355328 ∧ (a :: r).length + 1 ≤ 4611686018427387904 ∧ 0 + (a :: r).length * 1 ≤ (arrI (a :: r)).size:=by rw [size_arrI]; omega
        simp only [rd89_0,encI,RT.val,hki,hok,F121_eq,f1,f2,f3,f4,(F83_of _ _ _ _).1,(F83_of _ _ _ _).2,arrEq_self,decide_true,Bool.and_self,cond_true,he,Bool.not_false,cond_false,h3,hb,allFz_arrI,hl1.1,hl1.2.1,hl1.2.2]
        simp [encI]
end
end
end Go.Proofs.Ytjdidbnmkogflaa

namespace Go.Proofs.Ytjdidbnmkogflaa
open Go.Gi Go.RowKit Go.Proofs.Ytjdidbnmkogflaa.Old
noncomputable section
set_option maxRecDepth 100000
set_option linter.unusedVariables false
set_option linter.unusedSimpArgs false
section
variable {c0 c c3 : Array Value} {n n2 n3 : Nat} {age shear lo hi tick now : Int}
theorem F122_of {out : Int} (hv : Vld c0 0 n c 0 n2 age shear) (hq : Qst lo hi tick now) :
    F122_ok c0 0 n c 0 n2 c3 0 n3 age shear out lo hi tick now = true ∧ F122_4 c0 0 n c 0 n2 c3 0 n3 age shear out lo hi tick now = !emp (all c0 c n2 age shear lo hi tick now (chB 128 out)):=by
  have h:=F122_eq (c3:=c3) (off3:=0) (n3:=n3) (out:=out) hv hq
  exact ⟨by simp [F122_ok,h],by simp [F122_4,h,emp]⟩
theorem loop90 (hv : Vld c0 0 n c 0 n2 age shear) (hq : Qst lo hi tick now) (a17 a18 a19 a20 : Int) : ∀ (m k : Nat) (L : List Int),k + m = n → L.length ≤ k →
    loopR rd90_0
      ⟨encI L,lo,hi,tick,now,false,(k : Int),c0,0,n,c,0,n2,c3,0,n3,age,shear,a17,a18,a19,a20⟩ =
    some (.k0 false (arrI (L ++ cul c0 c n2 age shear lo hi tick now m k)) 0 (L ++ cul c0 c n2 age shear lo hi tick now m k).length c0 0 n c 0 n2 c3 0 n3 age shear a17 a18 a19 a20)
  | 0,k,L,e,hl=>loopR_done (by
      obtain rfl : k = n:=by omega
      have h1 : ¬ ((k : Int) < (k : Int)):=by omega
      cases L with
      | nil=>simp only [rd90_0,encI,RT.val,h1,Int.ofNat_eq_natCast,decide_false,cond_false]; rfl
      | cons a r =>
        simp only [rd90_0,encI,RT.val,h1,Int.ofNat_eq_natCast,decide_false,cond_false,cond_true,allFz_arrI,size_arrI,Nat.zero_add,Nat.mul_one,Nat.le_refl,decide_true,Bool.and_self,cul,List.append_nil])
  | m + 1,k,L,e,hl=>by
    have hm : n ≤ 6:=hv.few
    have hki : (k : Int) < (n : Int):=by omega
    have h3 : IntKind.wrap .i64 ((k : Int) + 1) = ((k + 1 : Nat) : Int):=by rw [wrap64_id (by omega) (by omega)]; omega
    obtain ⟨f1,f2⟩:=F122_of (c3:=c3) (n3:=n3) (out:=(k : Int)) hv hq
    by_cases he : emp (all c0 c n2 age shear lo hi tick now (chB 128 (k : Int))) = true
    · rw [show cul c0 c n2 age shear lo hi tick now (m + 1) k = cul c0 c n2 age shear lo hi tick now m (k + 1) from by rw [cul,if_pos he]]
      refine (loopR_next ?_).trans (loop90 hv hq a17 a18 a19 a20 m (k + 1) L (by omega) (by omega))
      cases L with
      | nil=>simp only [rd90_0,encI,RT.val,Int.ofNat_eq_natCast,hki,f1,f2,he,decide_true,Bool.not_true,Bool.not_false,cond_true,cond_false,h3]
      | cons a r=>simp only [rd90_0,encI,RT.val,Int.ofNat_eq_natCast,hki,f1,f2,he,decide_true,Bool.not_true,Bool.not_false,cond_true,cond_false,h3,allFz_arrI]
    · rw [show cul c0 c n2 age shear lo hi tick now (m + 1) k = (k : Int) :: cul c0 c n2 age shear lo hi tick now m (k + 1) from by rw [cul,if_neg he]]
      rw [show L ++ (k : Int) :: cul c0 c n2 age shear lo hi tick now m (k + 1) = (L ++ [(k : Int)]) ++ cul c0 c n2 age shear lo hi tick now m (k + 1) from by simp]
      refine (loopR_next ?_).trans (loop90 hv hq a17 a18 a19 a20 m (k + 1) (L ++ [(k : Int)]) (by omega) (by simp; omega))
      rw [Bool.not_eq_true] at he
      cases L with
      | nil =>
        simp only [rd90_0,encI,RT.val,Int.ofNat_eq_natCast,hki,f1,f2,he,decide_true,Bool.not_true,Bool.not_false,cond_true,cond_false,h3]
        rfl
      | cons a r =>
        have hb:=apB_arrI (a :: r) (k : Int)
        have hl1 : ((a :: r).length + 1) * 8 ≤ 140737488355328 ∧ (a :: r).length + 1 ≤ 4611686018427387904 ∧ 0 + (a :: r).length * 1 ≤ (arrI (a :: r)).size:=by rw [size_arrI]; omega
        simp only [rd90_0,encI,RT.val,Int.ofNat_eq_natCast,hki,f1,f2,he,decide_true,Bool.and_self,Bool.not_true,Bool.not_false,cond_true,cond_false,h3,hb,allFz_arrI,hl1.1,hl1.2.1,hl1.2.2]
        simp [encI]
end
end
end Go.Proofs.Ytjdidbnmkogflaa

namespace Go.Gi
open Go.RowKit
noncomputable section
def bodyOp (P : Program) (self : Self) (rd : Option Nat) (o : Oper) (s : St) (K : St → Option Out) : Option Out :=
  match aop P (evalT s.t) s.h o with
  | some (.val v h)=>putK s.t o.dst v fun t=>forceH o.op h fun h=>K { s with t:=t,h:=h }
  | some (.enter f args) =>
    match self (.call f args s.h) with
    | some (.ret v h)=>putK s.t o.dst v fun t=>forceH o.op h fun h=>K { s with t:=t,h:=h }
    | some (.pan v h)=>some (.ex (.panic v) { s with h:=h })
    | _=>none
  | some (.yield l args) =>
    match self (.round l args s.h) with
    | some (.ret v h)=>putK s.t o.dst v fun t=>forceH o.op h fun h=>K { s with t:=t,h:=h }
    | _=>none
  | some (.defer d)=>if rd.isNone then putK s.t o.dst undef fun t=>K { t:=t,d:=d :: s.d,h:=s.h } else none
  | some (.panic v)=>some (.ex (.panic v) s)
  | _=>none
theorem runOps_cons {P : Program} {self : Self} {rd : Option Nat} {os : Array Oper} {i : Nat} {r : List Nat} {s : St} : runOps P self rd os (i :: r) s =
    match os[i]? with
    | none=>runOps P self rd os r s
    | some o=>if wantedT os s.t o then bodyOp P self rd o s (runOps P self rd os r) else putK s.t o.dst undef fun t=>runOps P self rd os r { s with t:=t }:=rfl
structure OC (x : Operand) where
  f : List Value → Value
  ok : ∀ T,f T = evalT T x
def cO (x : Operand) : OC x :=
  match x with
  | .tmp n=>⟨fun T=>lget T n,fun _=>rfl⟩
  | .const v=>⟨fun _=>v,fun _=>rfl⟩
  | .global g=>⟨fun _=>.pointer (some ⟨g,0,none⟩),fun _=>rfl⟩
  | .func f=>⟨fun _=>.func (.func f) #[] #[],fun _=>rfl⟩
def forceW {β : Type} (v : Value) (k : Value → β) : β :=
  match v with
  | .bool b=>k (.bool b)
  | .int q n=>k (.int q n)
  | .string s=>k (.string s)
  | .pointer a=>k (.pointer a)
  | .slice a l c=>k (.slice a l c)
  | .map a=>k (.map a)
  | .agg cs=>k (.agg cs)
  | .tuple cs=>k (.tuple cs)
  | .func f a b=>k (.func f a b)
  | .nilFunc=>k .nilFunc
  | .nilIface=>k .nilIface
  | v=>k v
theorem forceW_eq {β : Type} (v : Value) (k : Value → β) : forceW v k = k v:=by cases v <;> rfl
def asI {β : Type} (v : Value) (k : IntKind → Int → β) (e : β) : β:=match v with | .int q n=>k q n | _=>e
def asB {β : Type} (v : Value) (kt kf e : β) : β:=match v with | .bool b=>Bool.rec (motive:=fun _=>β) kf kt b | _=>e
abbrev R:=Option Out
structure QC (P : Program) (o : Oper) where
  f : List Value → List Ob → (Value → R) → R → R
  ok : ∀ T H k e,(∃ v,aread P (evalT T) H o = some v ∧ f T H k e = k v) ∨ f T H k e = e
def qNone (P : Program) (o : Oper) : QC P o:=⟨fun _ _ _ e=>e,fun _ _ _ _=>.inr rfl⟩
def qRead (P : Program) (o : Oper) : QC P o :=
  ⟨fun T H k e=>match aread P (evalT T) H o with | some v=>forceV v k | none=>e,fun T H k e=>by
    cases h : aread P (evalT T) H o with
    | none=>exact .inr rfl
    | some v=>exact .inl ⟨v,rfl,forceV_eq v k⟩⟩
def qMove (P : Program) (o : Oper) (x : Operand) (h : ∀ T H,aread P (evalT T) H o = some (evalT T x)) : QC P o :=
  ⟨fun T _ k _=>forceW ((cO x).f T) k,fun T H k e=>.inl ⟨_,h T H,by rw [forceW_eq,(cO x).ok]⟩⟩
def qPick (P : Program) (o : Oper) (c a b : Operand) (ho : o.op = .pick c a b) (hok : (okO c && okO a && okO b) = true) : QC P o :=
  ⟨fun T _ k e=>asB ((cO c).f T) (forceW ((cO a).f T) k) (forceW ((cO b).f T) k) e,fun T H k e=>by
    rw [(cO c).ok,(cO a).ok,(cO b).ok,forceW_eq,forceW_eq]
    unfold asB
    split
    · rename_i t ht
      left
      refine ⟨if t then evalT T a else evalT T b,?_,?_⟩
      · unfold aread; rw [ho]; simp only; rw [if_pos hok,ht]
      · cases t <;> rfl
    · exact .inr rfl⟩
def iLt (a b : Int) : Bool:=match a,b with | .ofNat m,.ofNat n=>Nat.blt m n | a,b=>decide (a < b)
theorem iLt_eq (a b : Int) : iLt a b = decide (a < b):=by
  unfold iLt
  split
  · rename_i m n
    rw [Bool.eq_iff_iff]
    simp [Nat.blt_eq]
  · rfl
def iEq (a b : Int) : Bool:=match a,b with | .ofNat m,.ofNat n=>Nat.beq m n | a,b=>decide (a = b)
theorem iEq_eq (a b : Int) : iEq a b = decide (a = b):=by
  unfold iEq
  split
  · rename_i m n
    rw [Bool.eq_iff_iff]
    simp [Int.ofNat_inj]
  · rfl
def retB (k : Value → R) (b : Bool) : R:=Bool.rec (motive:=fun _=>R) (k (.bool false)) (k (.bool true)) b
theorem retB_eq (k : Value → R) (b : Bool) : retB k b = k (.bool b):=by cases b <;> rfl
def retI (k : Value → R) (q : IntKind) (n : Int) : R:=forceI (q.wrap n) fun n=>k (.int q n)
def cmpI (op : BinOp) : Option (Int → Int → Bool) :=
  match op with
  | .eql=>some fun a b=>iEq a b
  | .neq=>some fun a b=>!iEq a b
  | .lss=>some fun a b=>iLt a b
  | .leq=>some fun a b=>!iLt b a
  | .gtr=>some fun a b=>iLt b a
  | .geq=>some fun a b=>!iLt a b
  | _=>none
theorem cmpI_eq {op : BinOp} {g : Int → Int → Bool} (h : cmpI op = some g) (q : IntKind) (a b : Int) : fastBin op (.int q a) (.int q b) = some (.bool (g a b)):=by
  cases op <;> simp only [cmpI,Option.some.injEq] at h <;> first | (cases h; done) | skip
  all_goals
    subst h
    simp only [fastBin,if_true,iLt_eq,iEq_eq]
    try (congr 2 <;> (rw [Bool.eq_iff_iff]; simp <;> omega))
def numI (op : BinOp) : Option (Int → Int → Int) :=
  match op with
  | .add=>some fun a b=>a + b
  | .sub=>some fun a b=>a - b
  | .mul=>some fun a b=>a * b
  | _=>none
theorem numI_eq {op : BinOp} {g : Int → Int → Int} (h : numI op = some g) (q : IntKind) (a b : Int) : fastBin op (.int q a) (.int q b) = some (.int q (q.wrap (g a b))):=by
  cases op <;> simp only [numI,Option.some.injEq] at h <;> first | (cases h; done) | skip
  all_goals
    subst h
    simp only [fastBin,if_true]
theorem aread_bin {P : Program} {T : List Value} {H : List Ob} {o : Oper} {op : BinOp} {t : TypeId} {x y : Operand} {t' : TypeId} {q : IntKind} {a b : Int} {v : Value}
    (ho : o.op = .binOp op t x y t') (hok : (okO x && okO y) = true) (hx : evalT T x = .int q a) (hy : evalT T y = .int q b) (hf : fastBin op (.int q a) (.int q b) = some v) : aread P (evalT T) H o = some v:=by
  unfold aread
  rw [ho]
  simp only
  rw [hx,hy,hf]
  simp only [gr,gA,g0,Bool.and_true]
  rw [if_pos hok]
def qCmp (P : Program) (o : Oper) (op : BinOp) (t : TypeId) (x y : Operand) (t' : TypeId) (g : Int → Int → Bool) (ho : o.op = .binOp op t x y t') (hok : (okO x && okO y) = true) (hg : cmpI op = some g) : QC P o :=
  ⟨fun T _ k e=>asI ((cO x).f T) (fun q a=>asI ((cO y).f T) (fun q' b=>if q = q' then retB k (g a b) else e) e) e,fun T H k e=>by
    rw [(cO x).ok,(cO y).ok]
    unfold asI
    split
    · rename_i q a hx
      split
      · rename_i q' b hy
        show (∃ v,aread P (evalT T) H o = some v ∧ (if q = q' then _ else e) = k v) ∨ (if q = q' then _ else e) = e
        by_cases hq : q = q'
        · subst hq
          rw [if_pos rfl]
          exact .inl ⟨_,aread_bin ho hok hx hy (cmpI_eq hg q a b),retB_eq _ _⟩
        · rw [if_neg hq]; exact .inr rfl
      · exact .inr rfl
    · exact .inr rfl⟩
def qNum (P : Program) (o : Oper) (op : BinOp) (t : TypeId) (x y : Operand) (t' : TypeId) (g : Int → Int → Int) (ho : o.op = .binOp op t x y t') (hok : (okO x && okO y) = true) (hg : numI op = some g) : QC P o :=
  ⟨fun T _ k e=>asI ((cO x).f T) (fun q a=>asI ((cO y).f T) (fun q' b=>if q = q' then retI k q (g a b) else e) e) e,fun T H k e=>by
    rw [(cO x).ok,(cO y).ok]
    unfold asI
    split
    · rename_i q a hx
      split
      · rename_i q' b hy
        show (∃ v,aread P (evalT T) H o = some v ∧ (if q = q' then _ else e) = k v) ∨ (if q = q' then _ else e) = e
        by_cases hq : q = q'
        · subst hq
          rw [if_pos rfl]
          exact .inl ⟨_,aread_bin ho hok hx hy (numI_eq hg q a b),by unfold retI; rw [forceI_eq]⟩
        · rw [if_neg hq]; exact .inr rfl
      · exact .inr rfl
    · exact .inr rfl⟩
def qOne (P : Program) (o : Oper) (x : Operand) (g : List Ob → Value → Option Value) (h : ∀ T H v,g H (evalT T x) = some v → aread P (evalT T) H o = some v) : QC P o :=
  ⟨fun T H k e=>match g H ((cO x).f T) with | some v=>forceV v k | none=>e,fun T H k e=>by
    rw [(cO x).ok]
    split
    · rename_i v hv; exact .inl ⟨v,h T H v hv,forceV_eq v k⟩
    · exact .inr rfl⟩
def mapC : List Operand → List Value → (List Value → R) → R
  | [],_,k=>k []
  | x :: r,T,k=>forceW ((cO x).f T) fun v=>mapC r T fun l=>k (v :: l)
theorem mapC_eq (T : List Value) : ∀ (l : List Operand) (k : List Value → R),mapC l T k = k (l.map (evalT T))
  | [],_=>rfl
  | x :: r,k=>by simp only [mapC,forceW_eq,mapC_eq T r,(cO x).ok,List.map_cons]
theorem if_some {c : Prop} [Decidable c] {a : Option Value} {v : Value} (h : (if c then a else none) = some v) : c ∧ a = some v:=by
  by_cases hc : c
  · rw [if_pos hc] at h; exact ⟨hc,h⟩
  · rw [if_neg hc] at h; cases h
theorem okO_const (v : Value) : okO (.const v) = gr v:=rfl
theorem ev_const (T : List Value) (v : Value) : evalT T (.const v) = v:=rfl
def memo (P : Program) (o : Oper) (k : Value → R) (e : R) : R:=match aread P (evalT []) [] o with | some v=>forceV v k | none=>e
theorem memo_ok {P : Program} {o : Oper} {k : Value → R} {e : R} : (∃ v,aread P (evalT []) [] o = some v ∧ memo P o k e = k v) ∨ memo P o k e = e:=by
  unfold memo
  cases h : aread P (evalT []) [] o with
  | none=>exact .inr rfl
  | some v=>exact .inl ⟨v,rfl,forceV_eq v k⟩
def qUn (P : Program) (o : Oper) (u : UnOp) (t : TypeId) (x : Operand) (ho : o.op = .unOp u t x) (hx : okO x = true) : QC P o :=
  ⟨fun T _ k e=>forceW ((cO x).f T) fun v=>memo P { o with op:=.unOp u t (.const v) } k e,fun T H k e=>by
    rw [forceW_eq,(cO x).ok]
    rcases memo_ok (P:=P) (o:={ o with op:=.unOp u t (.const (evalT T x)) }) (k:=k) (e:=e) with ⟨v,h1,h2⟩ | h
    · refine .inl ⟨v,?_,h2⟩
      obtain ⟨dst,op,type,pos,after,guard⟩:=o
      simp only at ho; subst ho
      simp only [aread,okO_const,ev_const] at h1
      simp only [aread,hx,Bool.true_and]
      obtain ⟨hg,h1⟩:=if_some h1
      simp only [Bool.and_eq_true] at hg
      rw [if_pos hg.2]; exact h1
    · exact .inr h⟩
def qIdx (P : Program) (o : Oper) (t : TypeId) (x y : Operand) (ho : o.op = .index t x y) (hx : (okO x && okO y) = true) : QC P o :=
  ⟨fun T _ k e=>forceW ((cO x).f T) fun v=>forceW ((cO y).f T) fun u=>memo P { o with op:=.index t (.const v) (.const u) } k e,fun T H k e=>by
    rw [forceW_eq,forceW_eq,(cO x).ok,(cO y).ok]
    rcases memo_ok (P:=P) (o:={ o with op:=.index t (.const (evalT T x)) (.const (evalT T y)) }) (k:=k) (e:=e) with ⟨v,h1,h2⟩ | h
    · refine .inl ⟨v,?_,h2⟩
      obtain ⟨dst,op,type,pos,after,guard⟩:=o
      simp only at ho; subst ho
      simp only [aread,okO_const,ev_const] at h1
      simp only [aread,hx,Bool.true_and]
      obtain ⟨hg,h1⟩:=if_some h1
      simp only [Bool.and_eq_true] at hg
      rw [if_pos (by simp [hg.1.2,hg.2])]; exact h1
    · exact .inr h⟩
def divOp (b : BinOp) : Bool:=match b with | .quo | .rem=>true | _=>false
def qDiv (P : Program) (o : Oper) (b : BinOp) (t : TypeId) (x y : Operand) (t' : TypeId) (ho : o.op = .binOp b t x y t') (hx : (okO x && okO y) = true) (hb : divOp b = true) : QC P o :=
  ⟨fun T _ k e=>forceW ((cO x).f T) fun v=>forceW ((cO y).f T) fun u=>memo P { o with op:=.binOp b t (.const v) (.const u) t' } k e,fun T H k e=>by
    rw [forceW_eq,forceW_eq,(cO x).ok,(cO y).ok]
    rcases memo_ok (P:=P) (o:={ o with op:=.binOp b t (.const (evalT T x)) (.const (evalT T y)) t' }) (k:=k) (e:=e) with ⟨v,h1,h2⟩ | h
    · refine .inl ⟨v,?_,h2⟩
      obtain ⟨dst,op,type,pos,after,guard⟩:=o
      simp only at ho; subst ho
      simp only [aread,okO_const,ev_const] at h1
      simp only [aread,hx,Bool.true_and]
      obtain ⟨hg,h1⟩:=if_some h1
      simp only [Bool.and_eq_true] at hg
      rw [if_pos (by simp [hg.1.2,hg.2])]
      cases b <;> first | (cases hb; done) | exact h1
    · exact .inr h⟩
def mmOp (b : Builtin) : Bool:=match b with | .max | .min | .len=>true | _=>false
def qMm (P : Program) (o : Oper) (b : Builtin) (args : Array Operand) (ts : Array TypeId) (ho : o.op = .call { callee:=.builtin b,args:=args,argTypes:=ts }) (hx : args.toList.all okO = true) (hb : mmOp b = true) : QC P o :=
  ⟨fun T _ k e=>mapC args.toList T fun l=>memo P { o with op:=.call { callee:=.builtin b,args:=⟨l.map .const⟩,argTypes:=ts } } k e,fun T H k e=>by
    rw [mapC_eq]
    rcases memo_ok (P:=P) (o:={ o with op:=.call { callee:=.builtin b,args:=⟨(args.toList.map (evalT T)).map .const⟩,argTypes:=ts } }) (k:=k) (e:=e) with ⟨v,h1,h2⟩ | h
    · refine .inl ⟨v,?_,h2⟩
      obtain ⟨dst,op,type,pos,after,guard⟩:=o
      simp only at ho; subst ho
      simp only [aread] at h1
      simp only [aread,hx,if_true]
      have e1 : (List.map Operand.const (List.map (evalT T) args.toList)).all okO = args.toList.all fun x=>gr (evalT T x):=by
        rw [List.all_map,List.all_map]; rfl
      have e2 : ((List.map Operand.const (List.map (evalT T) args.toList)).all fun x=>gr (evalT [] x)) = args.toList.all fun x=>gr (evalT T x):=by
        rw [List.all_map,List.all_map]; rfl
      rw [e1,e2] at h1
      split at h1
      · rename_i hg
        rw [hg] at h1 ⊢
        have e3 : (⟨(args.toList.map (evalT T)).map .const⟩ : Array Operand).map (evalT []) = args.map (evalT T):=by
          apply Array.ext'
          simp [evalT]
        cases b <;> first | (cases hb; done) | skip
        all_goals
          simp only [numB,Bool.and_self,if_true] at h1 ⊢
          simp only [execOp,resolve,e3] at h1 ⊢
          exact h1
      · cases h1
    · exact .inr h⟩
def qLoad (P : Program) (o : Oper) (t : TypeId) (x : Operand) (ho : o.op = .load t x) (hx : okO x = true) : QC P o :=
  ⟨fun T H k e=>loadK P H t ((cO x).f T) k (fun v=>forceW v k) e,fun T H k e=>by
    rw [show (fun v=>forceW v k) = k from funext fun v=>forceW_eq v k,(cO x).ok]
    rcases loadK_ok (P:=P) (H:=H) (t:=t) (v:=evalT T x) (k:=k) (e:=e) with ⟨u,h1,h2⟩ | h
    · exact .inl ⟨u,by unfold aread; rw [ho]; simp only; rw [if_pos hx]; exact h1,h2⟩
    · exact .inr h⟩
def cQ (P : Program) (o : Oper) : QC P o :=
  match ho : o.op with
  | .move x=>if hx : okO x = true then qMove P o x (fun T H=>by unfold aread; rw [ho]; simp only; rw [if_pos hx]) else qNone P o
  | .assign x=>if hx : okO x = true then qMove P o x (fun T H=>by unfold aread; rw [ho]; simp only; rw [if_pos hx]) else qNone P o
  | .pick c a b=>if h : (okO c && okO a && okO b) = true then qPick P o c a b ho h else qNone P o
  | .binOp op t x y t' =>
    if h : (okO x && okO y) = true then
      match hg : cmpI op with
      | some g=>qCmp P o op t x y t' g ho h hg
      | none=>match hg : numI op with
        | some g=>qNum P o op t x y t' g ho h hg
        | none=>if hb : divOp op = true then qDiv P o op t x y t' ho h hb else qRead P o
    else qNone P o
  | .load t x=>if hx : okO x = true then qLoad P o t x ho hx else qNone P o
  | .fieldAddr s x f=>if hx : okO x = true then qOne P o x (fun _ v=>rFieldAddr P s f v) (fun T H v hv=>by unfold aread; rw [ho]; simp only; rw [if_pos hx]; exact hv) else qNone P o
  | .field t x f=>if hx : okO x = true then qOne P o x (fun _ v=>rField P t f v) (fun T H v hv=>by unfold aread; rw [ho]; simp only; rw [if_pos hx]; exact hv) else qNone P o
  | .extract x i=>if hx : okO x = true then qOne P o x (fun _ v=>rExtract i v) (fun T H v hv=>by unfold aread; rw [ho]; simp only; rw [if_pos hx]; exact hv) else qNone P o
  | .alloc _ | .box _ _ | .buildSlice _ _ _ | .store _ _ _ | .makeMap _ _ | .mapUpdate _ _ _ _ | .defer _ | .panic _=>qNone P o
  | .call { callee:=.value _,.. }=>qNone P o
  | .call { callee:=.builtin b,args:=args,argTypes:=ts } =>
    if hb : mmOp b = true then if hx : args.toList.all okO = true then qMm P o b args ts ho hx hb else qRead P o else qRead P o
  | .unOp u t x=>if hx : okO x = true then qUn P o u t x ho hx else qNone P o
  | .index t x y=>if hx : (okO x && okO y) = true then qIdx P o t x y ho hx else qNone P o
  | _=>qRead P o
structure BC (P : Program) (o : Oper) where
  run : Self → Option Nat → St → (St → R) → R
  ok : ∀ self rd s K,run self rd s K = bodyOp P self rd o s K
def bQuiet (P : Program) (o : Oper) (q : QC P o) : BC P o :=
  match hd : o.dst with
  | none=>⟨fun self rd s K=>q.f s.t s.h.bl (fun _=>K s) (bodyOp P self rd o s K),fun self rd s K=>by
      rcases q.ok s.t s.h.bl (fun _=>K s) (bodyOp P self rd o s K) with ⟨v,h1,h2⟩ | h
      · rw [h2]; unfold bodyOp aop; rw [h1]; simp only [putK_eq,forceH_eq,hd,put]
      · exact h⟩
  | some d=>⟨fun self rd s K=>q.f s.t s.h.bl (fun v=>lsetK s.t d v fun t=>K ⟨t,s.d,s.h⟩) (bodyOp P self rd o s K),fun self rd s K=>by
      rcases q.ok s.t s.h.bl (fun v=>lsetK s.t d v fun t=>K ⟨t,s.d,s.h⟩) (bodyOp P self rd o s K) with ⟨v,h1,h2⟩ | h
      · rw [h2]; unfold bodyOp aop; rw [h1]; simp only [putK_eq,forceH_eq,lsetK_eq,hd,put]
      · exact h⟩
def afterCall (dst : Option Tmp) (s : St) (K : St → R) (y : Option Out) : R :=
  match y with
  | some (.ret v h)=>putK s.t dst v fun t=>forceS h.bl fun bl=>forceN h.base fun base=>K ⟨t,s.d,⟨bl,base,h.wr⟩⟩
  | some (.pan v h)=>some (.ex (.panic v) { s with h:=h })
  | _=>none
def bCall (P : Program) (o : Oper) (g : FuncId) (args : Array Operand) (ts : Array TypeId) (ho : o.op = .call { callee:=.value (.func g),args:=args,argTypes:=ts }) (hok : args.toList.all okO = true) (hb : bodied P g = true) : BC P o :=
  ⟨fun self _ s K=>mapC args.toList s.t fun l=>afterCall o.dst s K (self (.call g ⟨l⟩ s.h)),fun self rd s K=>by
    rw [mapC_eq]
    have ha : aop P (evalT s.t) s.h o = some (.enter g ⟨args.toList.map (evalT s.t)⟩):=by
      unfold aop aread aloud
      rw [ho]
      simp only [okO,evalT,hok,hb,Bool.and_self,if_true]
      congr 2
      apply Array.ext'
      simp [Array.toList_map]
    unfold bodyOp afterCall
    rw [ha]
    simp only
    split <;> simp only [putK_eq,forceH_eq,forceS_eq,forceN_eq]⟩
def bStore (P : Program) (o : Oper) (t : TypeId) (a x : Operand) (ho : o.op = .store t a x) (hok : (okO a && okO x) = true) (hd : o.dst = none) : BC P o :=
  ⟨fun self rd s K=>storeK P s.h t ((cO a).f s.t) ((cO x).f s.t) (fun h=>K ⟨s.t,s.d,h⟩) (bodyOp P self rd o s K),fun self rd s K=>by
    rw [(cO a).ok,(cO x).ok]
    rcases storeK_ok (P:=P) (h:=s.h) (t:=t) (x:=evalT s.t a) (v:=evalT s.t x) (k:=fun h=>K ⟨s.t,s.d,h⟩) (e:=bodyOp P self rd o s K) with ⟨h',h1,h2⟩ | h
    · rw [h2]
      have ha : aop P (evalT s.t) s.h o = some (.val undef h'):=by
        unfold aop aread aloud
        rw [ho]
        simp only [hok,if_true,h1,Option.map_some]
      unfold bodyOp
      rw [ha]
      simp only [putK_eq,forceH_eq,hd,put]
    · exact h⟩
def cB (P : Program) (o : Oper) : BC P o :=
  match ho : o.op with
  | .call { callee:=.value (.func g),args:=args,argTypes:=ts } =>
    if h : (args.toList.all okO && bodied P g) = true then bCall P o g args ts ho (Bool.and_eq_true _ _ ▸ h).1 (Bool.and_eq_true _ _ ▸ h).2 else ⟨fun self rd s K=>bodyOp P self rd o s K,fun _ _ _ _=>rfl⟩
  | .store t a x =>
    if h : (okO a && okO x) = true then (match hd : o.dst with | none=>bStore P o t a x ho h hd | some _=>⟨fun self rd s K=>bodyOp P self rd o s K,fun _ _ _ _=>rfl⟩)
    else ⟨fun self rd s K=>bodyOp P self rd o s K,fun _ _ _ _=>rfl⟩
  | _=>bQuiet P o (cQ P o)
structure SC (P : Program) (os : Array Oper) (o : Oper) where
  run : Self → Option Nat → St → (St → R) → R
  ok : ∀ self rd s K,run self rd s K = if wantedT os s.t o then bodyOp P self rd o s K else putK s.t o.dst undef fun t=>K { s with t:=t }
def isB (want : Bool) (v : Value) : Bool:=match v with | .bool b=>b == want | _=>false
theorem wanted_some {os : Array Oper} {T : List Value} {o : Oper} {j : Nat} {want : Bool} {d : Tmp} (hg : o.guard = some (j,want)) (hd : (os[j]?).bind (·.dst) = some d) : wantedT os T o = isB want (lget T d):=by
  unfold wantedT
  rw [hg]
  simp only
  split
  · rename_i d' hd'; rw [hd] at hd'; cases hd'; rfl
  · rename_i hd'; rw [hd] at hd'; cases hd'
theorem wanted_none {os : Array Oper} {T : List Value} {o : Oper} {j : Nat} {want : Bool} (hg : o.guard = some (j,want)) (hd : (os[j]?).bind (·.dst) = none) : wantedT os T o = false:=by
  unfold wantedT
  rw [hg]
  simp only
  split
  · rename_i d' hd'; rw [hd] at hd'; cases hd'
  · rfl
def cS (P : Program) (os : Array Oper) (o : Oper) : SC P os o :=
  match hg : o.guard with
  | none=>⟨(cB P o).run,fun self rd s K=>by rw [(cB P o).ok]; unfold wantedT; rw [hg]; rfl⟩
  | some (j,want) =>
    match hd : (os[j]?).bind (·.dst) with
    | some d=>⟨fun self rd s K=>Bool.rec (motive:=fun _=>R) (putK s.t o.dst undef fun t=>K { s with t:=t }) ((cB P o).run self rd s K) (isB want (lget s.t d)),fun self rd s K=>by
        rw [(cB P o).ok,wanted_some hg hd]
        cases isB want (lget s.t d) <;> rfl⟩
    | none=>⟨fun _ _ s K=>putK s.t o.dst undef fun t=>K { s with t:=t },fun self rd s K=>by rw [wanted_none hg hd]; rfl⟩
structure LC (P : Program) (os : Array Oper) (l : List Nat) where
  run : Self → Option Nat → St → R
  ok : ∀ self rd s,run self rd s = runOps P self rd os l s
def cL (P : Program) (os : Array Oper) (l : List Nat) : LC P os l :=
  List.rec (motive:=fun l=>LC P os l) ⟨fun _ _ s=>some (.ex .normal s),fun _ _ _=>rfl⟩
    (fun i r ih=>match hi : os[i]? with
      | none=>⟨ih.run,fun self rd s=>by rw [ih.ok,runOps_cons,hi]⟩
      | some o=>⟨fun self rd s=>(cS P os o).run self rd s (fun s=>ih.run self rd s),fun self rd s=>by
          rw [(cS P os o).ok,runOps_cons,hi,show (fun s=>ih.run self rd s) = runOps P self rd os r from funext fun s=>ih.ok self rd s]
          simp only [ih.ok]⟩) l
end
end Go.Gi

namespace Go.Gi
open Go.RowKit
noncomputable section
def zSeq (self : Self) (rd : Option Nat) (b : Code) : Option Out → R
  | some (.ex .normal s')=>(match self (.code rd b s') with | some (.ex e s2)=>some (.ex e s2) | _=>none)
  | some (.ex e s')=>some (.ex e s')
  | _=>none
def zEx : Option Out → R
  | some (.ex e s')=>some (.ex e s')
  | _=>none
def zBlock (id : Nat) : Option Out → R
  | some (.ex (.exit id') s')=>if id' = id then some (.ex .normal s') else some (.ex (.exit id') s')
  | some (.ex e s')=>some (.ex e s')
  | _=>none
def zLoop (self : Self) (rd : Option Nat) (c : Code) : Option Out → R
  | some (.ex .normal s')=>zEx (self (.code rd (.loop c) s'))
  | some (.ex e s')=>some (.ex e s')
  | _=>none
def zCond (self : Self) (rd : Option Nat) (x y : Code) (s : St) (v : Value) : R :=
  match v with
  | .bool b=>Bool.rec (motive:=fun _=>R) (zEx (self (.code rd y s))) (zEx (self (.code rd x s))) b
  | _=>none
def zCode (drawn : Program → Self → Option Nat → Nat → Array Oper → St → Option Out) (P : Program) (self : Self) (rd : Option Nat) (c : Code) (s : St) : R :=
  match c with
  | .seq a b=>zSeq self rd b (self (.code rd a s))
  | .cond c x y=>Bool.rec (motive:=fun _=>R) none (zCond self rd x y s ((cO c).f s.t)) (okO c)
  | .block id c=>zBlock id (self (.code rd c s))
  | .loop c=>zLoop self rd c (self (.code rd c s))
  | .region id os dr=>Bool.rec (motive:=fun _=>R) ((cL P os (List.range os.size)).run self rd s) (drawn P self rd id os s) dr
  | .ret=>some (.ex .ret s)
  | .skip=>some (.ex .normal s)
  | .exit id=>some (.ex (.exit id) s)
  | c=>stepF drawn P self (.code rd c s)
def framed (n : Nat) (l : List Value) : List Value :=
  List.rec (motive:=fun _=>Nat → List Value) (fun n=>List.replicate n undef) (fun v _ ih n=>v :: ih (n - 1)) l n
theorem framed_eq : ∀ (l : List Value) (n : Nat),framed n l = l ++ List.replicate (n - l.length) undef
  | [],n=>rfl
  | v :: r,n=>by
    show v :: framed (n - 1) r = _
    rw [framed_eq r (n - 1)]
    simp only [List.length_cons,List.cons_append]
    congr 3
    omega
def frameK (n : Nat) (l : List Value) : (List Value → R) → R :=
  List.rec (motive:=fun _=>Nat → (List Value → R) → R) (fun n k=>forceN n fun n=>k (List.replicate n undef)) (fun v _ ih n k=>ih (Nat.sub n 1) fun r=>k (v :: r)) l n
theorem frameK_eq : ∀ (l : List Value) (n : Nat) (k : List Value → R),frameK n l k = k (l ++ List.replicate (n - l.length) undef)
  | [],n,k=>rfl
  | v :: r,n,k=>by
    show frameK (n - 1) r _ = _
    rw [frameK_eq r (n - 1)]
    simp only [List.length_cons,List.cons_append]
    congr 4
    omega
def zLeave (P : Program) (self : Self) (fn : Func) (h : Hp) : Option Out → R
  | some (.ex .normal s)=>leave P self fn s.t h s.d .returning s.h
  | some (.ex .ret s)=>leave P self fn s.t h s.d .returning s.h
  | some (.ex (.panic v) s)=>leave P self fn s.t h s.d (.panicking v false) s.h
  | _=>none
def zCall (P : Program) (self : Self) (args : Array Value) (h : Hp) (fn : Func) (c : Code) : R :=
  frameK fn.ntmps args.toList fun t=>forceN h.bl.length fun n=>zLeave P self fn h (self (.code none c { t:=t,d:=[],h:=⟨h.bl,n,[]⟩ }))
def bodyOf (P : Program) (f : FuncId) : Option (Func × Code) :=
  match P.funcs[f]? with
  | some fn=>match fn.body with
    | some c=>some (fn,c)
    | none=>none
  | none=>none
def stepQ (drawn : Program → Self → Option Nat → Nat → Array Oper → St → Option Out) (P : Program) (self : Self) (task : Task) : R :=
  match task with
  | .code rd c s=>zCode drawn P self rd c s
  | .call f args h=>(match bodyOf P f with | some (fn,c)=>zCall P self args h fn c | none=>none)
  | .dcall f args m h=>stepF drawn P self (.dcall f args m h)
  | .round l args h=>stepF drawn P self (.round l args h)
theorem stepQ_eq (drawn : Program → Self → Option Nat → Nat → Array Oper → St → Option Out) (P : Program) (self : Self) (task : Task) : stepQ drawn P self task = stepF drawn P self task:=by
  cases task with
  | dcall f args m h=>rfl
  | round l args h=>rfl
  | call f args h =>
    simp only [stepQ,stepF,bodyOf]
    cases P.funcs[f]? with
    | none=>rfl
    | some fn =>
      simp only
      cases fn.body with
      | none=>rfl
      | some c =>
        simp only [zCall,frameK_eq,forceN_eq,forceL1_eq,frame,enterH,Array.length_toList]
        generalize self (.code none c _) = y
        unfold zLeave
        rcases y with _ | y
        · rfl
        · cases y with
          | ex e s=>cases e <;> rfl
          | _=>rfl
  | code rd c s =>
    cases c with
    | seq a b =>
      simp only [stepQ,zCode,stepF]
      generalize self (.code rd a s) = y
      rcases y with _ | y
      · rfl
      · cases y with
        | ex e s=>cases e <;> rfl
        | _=>rfl
    | cond c x y =>
      simp only [stepQ,zCode,stepF]
      cases okO c with
      | false=>rfl
      | true =>
        simp only [(cO c).ok,zCond,if_true]
        generalize evalT s.t c = v
        cases v with
        | bool b =>
          cases b with
          | true =>
            simp only
            generalize self (.code rd x s) = y
            rcases y with _ | y
            · rfl
            · cases y <;> rfl
          | false =>
            simp only
            generalize self (.code rd y s) = y
            rcases y with _ | y
            · rfl
            · cases y <;> rfl
        | _=>rfl
    | block id c =>
      simp only [stepQ,zCode,stepF]
      generalize self (.code rd c s) = y
      rcases y with _ | y
      · rfl
      · cases y with
        | ex e s=>cases e <;> rfl
        | _=>rfl
    | loop c =>
      simp only [stepQ,zCode,stepF]
      generalize self (.code rd c s) = y
      rcases y with _ | y
      · rfl
      · cases y with
        | ex e s=>cases e <;> (first | rfl | (simp only [zLoop,zEx]; split <;> simp_all))
        | _=>rfl
    | region id os dr =>
      simp only [stepQ,zCode,stepF]
      cases dr with
      | false=>exact (cL P os (List.range os.size)).ok self rd s
      | true=>rfl
    | _=>rfl
def iterQ (drawn : Program → Self → Option Nat → Nat → Array Oper → St → Option Out) (P : Program) (n : Nat) : Self :=
  Nat.rec (motive:=fun _=>Self) (fun _=>none) (fun _ ih=>stepQ drawn P ih) n
theorem iterQ_eq (drawn : Program → Self → Option Nat → Nat → Array Oper → St → Option Out) (P : Program) : ∀ n,iterQ drawn P n = iter drawn P n
  | 0=>rfl
  | n + 1=>by
    show stepQ drawn P (iterQ drawn P n) = stepF drawn P (iter drawn P n)
    rw [iterQ_eq drawn P n]
    exact funext fun t=>stepQ_eq drawn P _ t
end
end Go.Gi

namespace Go.Gi
open Go.RowKit
noncomputable section
def loudS (o : Oper) : Bool :=
  match o.op with
  | .alloc _ | .box _ _ | .buildSlice _ _ _ | .store _ _ _ | .convert _ _ _ | .makeMap _ _ | .mapUpdate _ _ _ _ | .insert _ _ _ _=>true
  | .call { callee:=.builtin b,.. }=>(match b with | .len | .cap | .max | .min=>false | _=>true)
  | .call _=>true
  | _=>false
def dstOk1 (os : Array Oper) (clo : List Nat) (i j : Nat) : Bool :=
  i == j || match os[i]?,os[j]? with
    | some a,some b=>(match a.dst with
      | some t=>(b.dst != some t) && (!(looks os b).contains t || cl clo j i || cl clo i j)
      | none=>true)
    | _,_=>true
def dstOk (os : Array Oper) (clo : List Nat) : Bool:=(List.range os.size).all fun i=>(List.range os.size).all fun j=>dstOk1 os clo i j
def need1 (os : Array Oper) (clo : List Nat) (i j : Nat) : Bool :=
  match os[i]?,os[j]? with
  | some a,some b=>loudS a && (loudS b || memOp b.op) && unord clo i j
  | _,_=>false
def need (os : Array Oper) (clo : List Nat) : List (Nat × Nat) :=
  (List.range os.size).flatMap fun i=>((List.range os.size).filter fun j=>need1 os clo i j).map fun j=>(i,j)
def dchkQ (P : Program) (os : Array Oper) (clo : List Nat) (recs : List Rec) : Bool :=
  dstOk os clo && recs.all (fun r=>!r.loud || loudS r.o) && (need os clo).all fun x=>recs.all fun r=>!(r.i == x.1) || recs.all fun q=>!(q.i == x.2) || pairOk P os clo r q
theorem dchkQ_ok {P : Program} {os : Array Oper} {clo : List Nat} {recs : List Rec} (ho : ∀ r ∈ recs,os[r.i]? = some r.o) (h : dchkQ P os clo recs = true) : dchk P os clo recs = true:=by
  simp only [dchkQ,Bool.and_eq_true,List.all_eq_true] at h
  obtain ⟨⟨h1,h2⟩,h3⟩:=h
  simp only [dchk,List.all_eq_true]
  intro r hr q hq
  have hri:=ho r hr
  have hqi:=ho q hq
  have hrl : r.i < os.size:=(Array.getElem?_eq_some_iff.1 hri).1
  have hql : q.i < os.size:=(Array.getElem?_eq_some_iff.1 hqi).1
  by_cases hn : need1 os clo r.i q.i = true
  · have hm : (r.i,q.i) ∈ need os clo:=by
      simp only [need,List.mem_flatMap,List.mem_map,List.mem_filter,List.mem_range]
      exact ⟨r.i,hrl,q.i,⟨hql,hn⟩,rfl⟩
    have:=h3 _ hm r hr
    simp only [beq_self_eq_true,Bool.not_true,Bool.false_or,List.all_eq_true] at this
    have:=this q hq
    simpa using this
  · have hd : dstOk1 os clo r.i q.i = true:=by
      simp only [dstOk,List.all_eq_true,List.mem_range] at h1
      exact h1 r.i hrl q.i hql
    simp only [dstOk1,hri,hqi] at hd
    simp only [need1,hri,hqi] at hn
    unfold pairOk
    cases he : r.i == q.i with
    | true=>rfl
    | false =>
      rw [he,Bool.false_or] at hd
      rw [Bool.false_or,Bool.and_eq_true]
      refine ⟨hd,?_⟩
      have hl1:=h2 r hr
      have hl2:=h2 q hq
      cases hrL : r.loud with
      | false=>rfl
      | true =>
        simp only [hrL,Bool.not_true,Bool.false_or] at hl1
        simp only [hl1,Bool.true_and] at hn
        cases hu : unord clo r.i q.i with
        | false=>simp
        | true =>
          simp only [hu,Bool.and_true,Bool.or_eq_true,not_or,Bool.not_eq_true] at hn
          cases hqL : q.loud with
          | true=>simp only [hqL,hn.1,Bool.not_true,Bool.or_false] at hl2; cases hl2
          | false=>simp [hn.2]
def drawnQ (P : Program) (self : Self) (_ : Option Nat) (_ : Nat) (os : Array Oper) (s : St) : Option Out :=
  if planOk os (Region.linearise .any os 0) (mkClo os (Region.linearise .any os 0) (List.replicate os.size 0)) then
    match drun P self os (Region.linearise .any os 0) s.t s.h with
    | some (recs,T,h)=>if dchkQ P os (mkClo os (Region.linearise .any os 0) (List.replicate os.size 0)) recs then some (.ex .normal { s with t:=T,h:=h }) else none
    | none=>none
  else none
theorem drawnQ_le {P : Program} {self : Self} {rd : Option Nat} {id : Nat} {os : Array Oper} {s : St} {o : Out} (h : drawnQ P self rd id os s = some o) : drawn P self rd id os s = some o:=by
  unfold drawnQ at h
  unfold drawn
  split at h
  case isFalse=>cases h
  rename_i hp
  rw [if_pos hp]
  split at h
  case h_2=>cases h
  rename_i recs T h1 hr
  split at h
  case isFalse=>cases h
  rename_i hc
  rw [hr]
  simp only
  rw [if_pos (dchkQ_ok (fun r hm=>((drun_tr _ _ _ _ _ _ hr).1.recs r hm).1) hc)]
  exact h
theorem drawnQ_ok {P : Program} (hN : NoNG P) (hm : P.follows .mixedOrders = true) : DrawnOk P drawnQ :=
  fun self hs rd id os s o h=>drawn_ok hN hm self hs rd id os s o (drawnQ_le h)
end
end Go.Gi

namespace Go.Proofs.Ytjdidbnmkogflaa.Old
open Go.Gi Go.RowKit
noncomputable section
def saysTrue (o : Option Out) : Bool:=match o with | some (.ret (.bool true) ⟨[],0,[]⟩)=>true | _=>false
theorem saysTrue_iff {o : Option Out} (h : saysTrue o = true) : o = some (.ret (.bool true) ⟨[],0,[]⟩):=by
  unfold saysTrue at h
  split at h
  · rfl
  · cases h
theorem awake_run : saysTrue (iterQ drawnQ Try.prog 600 (.call 24 #[] { bl:=[],base:=0,wr:=[] })) = true:=by kernel_rfl
theorem awakeFact : Fact Try.prog (.call 24 #[] ⟨[],0,[]⟩) (.ret (.bool true) ⟨[],0,[]⟩):=by
  have h:=saysTrue_iff awake_run
  rw [iterQ_eq] at h
  exact ⟨(iter_ok noNG (drawnQ_ok noNG mixed) 600).1 _ _ h,trivial⟩
end
end Go.Proofs.Ytjdidbnmkogflaa.Old

namespace Go.Proofs.Ytjdidbnmkogflaa
open Go.Gi Go.RowKit Go.Proofs.Ytjdidbnmkogflaa.Old
noncomputable section
def p24V : Ans
  | .call g ⟨[]⟩ h=>(match Nat.beq g 24 with
    | true=>some (.leaf (.ret (.bool true) h))
    | false=>none)
  | _=>none
theorem known24V : Known Try.prog p24V:=by
  intro t xx o hh ho
  unfold p24V at hh
  split at hh
  case h_2=>cases hh
  rename_i g h
  split at hh
  case h_2=>cases hh
  rename_i hg
  simp only [Option.some.injEq] at hh
  subst hh
  simp only [AT.out,Option.some.injEq] at ho
  subst ho
  rw [Nat.eq_of_beq_eq_true hg]
  exact Fact.lift (zs:=[]) awakeFact rfl rfl h
end
end Go.Proofs.Ytjdidbnmkogflaa

namespace Go.Proofs.Ytjdidbnmkogflaa
open Go.Gi Go.RowKit Go.Proofs.Ytjdidbnmkogflaa.Old
noncomputable section
set_option maxRecDepth 100000
set_option linter.unusedVariables false
set_option linter.unusedSimpArgs false
section
variable {c0 c c3 : Array Value} {n n2 n3 : Nat} {age shear lo hi tick now : Int}
theorem F89_eq (hv : Vld c0 0 n c 0 n2 age shear) (hok : F81ok c0 0 n c 0 n2 c3 0 n3 age shear lo hi tick now = true) :
    F89_ok c0 0 n c 0 n2 c3 0 n3 age shear lo hi tick now = true ∧ F89_0 c0 0 n c 0 n2 c3 0 n3 age shear lo hi tick now = arrI (cul c0 c n2 age shear lo hi tick now n 0) ∧
    F89_1 c0 0 n c 0 n2 c3 0 n3 age shear lo hi tick now = 0 ∧ F89_2 c0 0 n c 0 n2 c3 0 n3 age shear lo hi tick now = (cul c0 c n2 age shear lo hi tick now n 0).length:=by
  have hL:=loop89 hv hok n 0 [] (by omega) (by simp)
  have hL' : L89_0 ⟨none,Int.ofNat n,0,c0,0,n,c,0,n2,c3,0,n3,age,shear,lo,hi,tick,now⟩ = _:=hL
  have h : F89 c0 0 n c 0 n2 c3 0 n3 age shear lo hi tick now = some ⟨arrI (cul c0 c n2 age shear lo hi tick now n 0),0,(cul c0 c n2 age shear lo hi tick now n 0).length⟩:=by
    unfold F89 rt89
    simp only [RT.val,eqCode_self,cond_true,L89_0_k0,L89_0_k0_0,L89_0_k0_1,L89_0_k0_2,hL',List.nil_append]
  exact ⟨by simp [F89_ok,h],by simp [F89_0,h],by simp [F89_1,h],by simp [F89_2,h]⟩
theorem F90_no (hv : Vld c0 0 n c 0 n2 age shear) (hq : Qst lo hi tick now) (he : emp (all c0 c n2 age shear lo hi tick now (chB 128 (-1)))  = true) :
    F90_ok c0 0 n c 0 n2 c3 0 n3 age shear lo hi tick now = true ∧ F90_0 c0 0 n c 0 n2 c3 0 n3 age shear lo hi tick now = arrI (cul c0 c n2 age shear lo hi tick now n 0) ∧
    F90_1 c0 0 n c 0 n2 c3 0 n3 age shear lo hi tick now = 0 ∧ F90_2 c0 0 n c 0 n2 c3 0 n3 age shear lo hi tick now = (cul c0 c n2 age shear lo hi tick now n 0).length ∧ F90_3 c0 0 n c 0 n2 c3 0 n3 age shear lo hi tick now = false:=by
  obtain ⟨f1,f2⟩:=F122_of (c3:=c3) (n3:=n3) (out:=-1) hv hq
  rw [he] at f2
  have h : F90 c0 0 n c 0 n2 c3 0 n3 age shear lo hi tick now = some ⟨arrI (cul c0 c n2 age shear lo hi tick now n 0),0,(cul c0 c n2 age shear lo hi tick now n 0).length,false⟩:=by
    unfold F90 rt90
    rw [f2,f1]
    have hL:=loop90 hv hq (c3:=c3) (n3:=n3) (F122_0 c0 0 n c 0 n2 c3 0 n3 age shear (-1) lo hi tick now) (F122_1 c0 0 n c 0 n2 c3 0 n3 age shear (-1) lo hi tick now) (F122_2 c0 0 n c 0 n2 c3 0 n3 age shear (-1) lo hi tick now) (F122_3 c0 0 n c 0 n2 c3 0 n3 age shear (-1) lo hi tick now) n 0 [] (by omega) (by simp)
    have hL' : L90_0 ⟨none,lo,hi,tick,now,false,0,c0,0,n,c,0,n2,c3,0,n3,age,shear,F122_0 c0 0 n c 0 n2 c3 0 n3 age shear (-1) lo hi tick now,F122_1 c0 0 n c 0 n2 c3 0 n3 age shear (-1) lo hi tick now,F122_2 c0 0 n c 0 n2 c3 0 n3 age shear (-1) lo hi tick now,F122_3 c0 0 n c 0 n2 c3 0 n3 age shear (-1) lo hi tick now⟩ = _:=hL
    simp only [RT.val,eqCode_self,cond_true,Bool.not_true,L90_0_k0,L90_0_k0_0,L90_0_k0_1,L90_0_k0_2,L90_0_k0_3,hL',List.nil_append]
  exact ⟨by simp [F90_ok,h],by simp [F90_0,h],by simp [F90_1,h],by simp [F90_2,h],by simp [F90_3,h]⟩
theorem F90_yes (hv : Vld c0 0 n c 0 n2 age shear) (hq : Qst lo hi tick now) (he : emp (all c0 c n2 age shear lo hi tick now (chB 128 (-1)))  = false) :
    F90_ok c0 0 n c 0 n2 c3 0 n3 age shear lo hi tick now = true ∧ F90_0 c0 0 n c 0 n2 c3 0 n3 age shear lo hi tick now = ⟨[]⟩ ∧
    F90_1 c0 0 n c 0 n2 c3 0 n3 age shear lo hi tick now = 0 ∧ F90_2 c0 0 n c 0 n2 c3 0 n3 age shear lo hi tick now = 0 ∧ F90_3 c0 0 n c 0 n2 c3 0 n3 age shear lo hi tick now = true:=by
  obtain ⟨f1,f2⟩:=F122_of (c3:=c3) (n3:=n3) (out:=-1) hv hq
  rw [he] at f2
  have h : F90 c0 0 n c 0 n2 c3 0 n3 age shear lo hi tick now = some ⟨⟨[]⟩,0,0,true⟩:=by
    unfold F90 rt90
    rw [f2,f1]
    have hL' : ∀ (a b x y : Int),L90_0 ⟨none,lo,hi,tick,now,true,0,c0,0,n,c,0,n2,c3,0,n3,age,shear,a,b,x,y⟩ = some (.k0 true ⟨[]⟩ 0 0 c0 0 n c 0 n2 c3 0 n3 age shear a b x y):=fun a b x y=>by
      unfold L90_0
      refine loopR_done ?_
      by_cases h : (0 : Int) < (n : Int) <;> simp only [rd90_0,RT.val,Int.ofNat_eq_natCast,h,decide_true,decide_false,Bool.not_true,cond_true,cond_false]
    simp only [RT.val,eqCode_self,cond_true,Bool.not_false,L90_0_k0,L90_0_k0_0,L90_0_k0_1,L90_0_k0_2,L90_0_k0_3,hL',List.nil_append]
  exact ⟨by simp [F90_ok,h],by simp [F90_0,h],by simp [F90_1,h],by simp [F90_2,h],by simp [F90_3,h]⟩
end
end
end Go.Proofs.Ytjdidbnmkogflaa

namespace Go.Proofs.Ytjdidbnmkogflaa
open Go.Gi Go.RowKit Go.Proofs.Ytjdidbnmkogflaa.Old
noncomputable section
set_option maxRecDepth 100000
set_option linter.unusedVariables false
set_option linter.unusedSimpArgs false
theorem getInt_arrI (L : List Int) {i : Nat} (h : i < L.length) : getInt (arrI L) i = L[i]:=by
  simp [getInt,arrI,lget_eq,h]
def ansO (c0 c : Array Value) (n n2 : Nat) (age shear lo hi tick now : Int) : Option Hd :=
  if emp (all c0 c n2 age shear lo hi tick now (chB 128 (-1))) = true then
    (match cul c0 c n2 age shear lo hi tick now n 0 with
     | [s]=>some (all c0 c n2 age shear lo hi tick now (chB 128 s))
     | _=>none)
  else some (all c0 c n2 age shear lo hi tick now (chB 128 (-1)))
section
variable {c0 c c3 : Array Value} {n n2 n3 : Nat} {age shear lo hi tick now : Int}
theorem all88 (hv : Vld c0 0 n c 0 n2 age shear) : all c0 c n2 age shear lo hi tick now (chB 88 0) = all c0 c n2 age shear lo hi tick now (chB 128 (-1)):=all_congr fun i hi=>by
  have:=hv.src i hi
  show true = !decide (getInt c (0 + i * 5) = -1)
  rw [decide_eq_false (by omega)]; rfl
theorem F92_eq (hv : Vld c0 0 n c 0 n2 age shear) (h81 : F81ok c0 0 n c 0 n2 c3 0 n3 age shear lo hi tick now = true) :
    F92 c0 0 n c 0 n2 c3 0 n3 age shear lo hi tick now = some (match ansO c0 c n n2 age shear lo hi tick now with
      | some h=>⟨h.xl,h.xh,h.yl,h.yh,true⟩
      | none=>⟨0,0,0,0,false⟩):=by
  obtain ⟨f1,f2,f3,f4⟩:=F81_of (c3:=c3) (off3:=0) (n3:=n3) (lo:=lo) (hi:=hi) (tick:=tick) (now:=now) (g:=88) (q:=0) hv
  rw [all88 hv] at f1 f2 f3 f4
  obtain ⟨m1,m2,m3,m4⟩:=F89_eq hv h81
  unfold F92 rt92 ansO
  by_cases he : emp (all c0 c n2 age shear lo hi tick now (chB 128 (-1))) = true
  · rw [if_pos he]
    unfold emp at he
    cases hc : cul c0 c n2 age shear lo hi tick now n 0 with
    | nil =>
      rw [hc] at m2 m4
      simp only [RT.val,h81,f1,f2,f3,f4,(F83_of _ _ _ _).1,(F83_of _ _ _ _).2,he,m1,m2,m3,m4,cond_true]
      rfl
    | cons s r =>
      rw [hc] at m2 m4
      cases r with
      | nil =>
        obtain ⟨q1,q2,q3,q4⟩:=F81_of (c3:=c3) (off3:=0) (n3:=n3) (lo:=lo) (hi:=hi) (tick:=tick) (now:=now) (g:=128) (q:=s) hv
        have e1 : decide (Int.ofNat [s].length = (1 : Int)) = true:=rfl
        have e2 : decide ((0 : Int) < Int.ofNat [s].length) = true:=rfl
        have e3 : isInt .i64 (arrI [s]) (0 + 0) = true:=isInt_arrI [s] (by simp)
        have e4 : getInt (arrI [s]) (0 + 0) = s:=getInt_arrI [s] (by simp)
        simp only [RT.val,h81,f1,f2,f3,f4,(F83_of _ _ _ _).1,(F83_of _ _ _ _).2,he,m1,m2,m3,m4,e1,e2,e3,e4,F121_eq,q1,q2,q3,q4,arrEq_self,decide_true,Bool.and_self,Bool.not_true,cond_true,cond_false]
      | cons s2 r =>
        have e1 : decide (Int.ofNat (s :: s2 :: r).length = (1 : Int)) = false:=by
          rw [decide_eq_false_iff_not]; simp only [List.length_cons,Int.ofNat_eq_natCast]; omega
        simp only [RT.val,h81,f1,f2,f3,f4,(F83_of _ _ _ _).1,(F83_of _ _ _ _).2,he,m1,m2,m3,m4,e1,Bool.not_false,cond_true,cond_false]
  · rw [if_neg he]
    unfold emp at he
    rw [Bool.not_eq_true] at he
    simp only [RT.val,h81,f1,f2,f3,f4,(F83_of _ _ _ _).1,(F83_of _ _ _ _).2,he,decide_true,cond_true,cond_false]
theorem cul_mem {c0 c : Array Value} {n2 : Nat} {age shear lo hi tick now s : Int} : ∀ m k,s ∈ cul c0 c n2 age shear lo hi tick now m k → emp (all c0 c n2 age shear lo hi tick now (chB 128 s)) = false
  | 0,_,h=>by simp [cul] at h
  | m + 1,k,h=>by
    unfold cul at h
    by_cases he : emp (all c0 c n2 age shear lo hi tick now (chB 128 (k : Int))) = true
    · rw [if_pos he] at h; exact cul_mem m (k + 1) h
    · rw [if_neg he] at h
      rcases List.mem_cons.1 h with rfl | h
      · rw [Bool.not_eq_true] at he; exact he
      · exact cul_mem m (k + 1) h
theorem F122_all {out : Int} (hv : Vld c0 0 n c 0 n2 age shear) (hq : Qst lo hi tick now) :
    F122_0 c0 0 n c 0 n2 c3 0 n3 age shear out lo hi tick now = (all c0 c n2 age shear lo hi tick now (chB 128 out)).xl ∧ F122_1 c0 0 n c 0 n2 c3 0 n3 age shear out lo hi tick now = (all c0 c n2 age shear lo hi tick now (chB 128 out)).xh ∧
    F122_2 c0 0 n c 0 n2 c3 0 n3 age shear out lo hi tick now = (all c0 c n2 age shear lo hi tick now (chB 128 out)).yl ∧ F122_3 c0 0 n c 0 n2 c3 0 n3 age shear out lo hi tick now = (all c0 c n2 age shear lo hi tick now (chB 128 out)).yh:=by
  have h:=F122_eq (c3:=c3) (off3:=0) (n3:=n3) (out:=out) hv hq
  exact ⟨by simp only [F122_0,h],by simp only [F122_1,h],by simp only [F122_2,h],by simp only [F122_3,h]⟩
theorem F93_eq (hv : Vld c0 0 n c 0 n2 age shear) (hq : Qst lo hi tick now) :
    F93 c0 0 n c 0 n2 c3 0 n3 age shear lo hi tick now = some (match ansO c0 c n n2 age shear lo hi tick now with
      | some h=>⟨h.xl,h.xh,h.yl,h.yh,true⟩
      | none=>⟨0,0,0,0,false⟩):=by
  unfold F93 rt93 ansO
  by_cases he : emp (all c0 c n2 age shear lo hi tick now (chB 128 (-1))) = true
  · rw [if_pos he]
    obtain ⟨m1,m2,m3,m4,m5⟩:=F90_no (c3:=c3) (n3:=n3) hv hq he
    cases hc : cul c0 c n2 age shear lo hi tick now n 0 with
    | nil =>
      rw [hc] at m2 m4
      simp only [RT.val,m1,m2,m3,m4,m5,cond_true,cond_false]
      rfl
    | cons s r =>
      have hs:=cul_mem (c0:=c0) (c:=c) (n2:=n2) (age:=age) (shear:=shear) (lo:=lo) (hi:=hi) (tick:=tick) (now:=now) (s:=s) n 0 (by rw [hc]; exact List.mem_cons_self)
      rw [hc] at m2 m4
      cases r with
      | nil =>
        obtain ⟨q1,q2,q3,q4⟩:=F122_all (c3:=c3) (n3:=n3) (out:=s) hv hq
        obtain ⟨q5,q6⟩:=F122_of (c3:=c3) (n3:=n3) (out:=s) hv hq
        rw [hs] at q6
        have e1 : decide (Int.ofNat [s].length = (1 : Int)) = true:=rfl
        have e2 : decide ((0 : Int) < Int.ofNat [s].length) = true:=rfl
        have e3 : isInt .i64 (arrI [s]) (0 + 0) = true:=isInt_arrI [s] (by simp)
        have e4 : getInt (arrI [s]) (0 + 0) = s:=getInt_arrI [s] (by simp)
        simp only [RT.val,m1,m2,m3,m4,m5,e1,e2,e3,e4,q1,q2,q3,q4,q5,q6,Bool.and_self,Bool.not_true,Bool.not_false,cond_true,cond_false]
      | cons s2 r =>
        have e1 : decide (Int.ofNat (s :: s2 :: r).length = (1 : Int)) = false:=by
          rw [decide_eq_false_iff_not]; simp only [List.length_cons,Int.ofNat_eq_natCast]; omega
        simp only [RT.val,m1,m2,m3,m4,m5,e1,Bool.not_false,cond_true,cond_false]
  · rw [if_neg he]
    rw [Bool.not_eq_true] at he
    obtain ⟨m1,m2,m3,m4,m5⟩:=F90_yes (c3:=c3) (n3:=n3) hv hq he
    obtain ⟨q1,q2,q3,q4⟩:=F122_all (c3:=c3) (n3:=n3) (out:=-1) hv hq
    obtain ⟨q5,q6⟩:=F122_of (c3:=c3) (n3:=n3) (out:=-1) hv hq
    rw [he] at q6
    simp only [RT.val,m1,m5,q1,q2,q3,q4,q5,q6,Bool.not_false,cond_true]
end
end
end Go.Proofs.Ytjdidbnmkogflaa

