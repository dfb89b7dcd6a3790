/- WindFiner proved: if the sources agree for all bands with one cut more, they do without it, and the bands without it cover those with it. Conditions: none. -/
import Derived.Test.YtaglpbmnadlpgaaMg13
import Derived.Test.YtaglpbmnadlpgaaMg14
namespace Go.Proofs.Ytaglpbmnadlpgaa
open Go.ChangeShapes Go.WideShapes Go.ChangeAt Go.RowKit Go.Gi Go.Proofs.Ytaglpbmnadlpgaa.Old
set_option linter.unusedVariables false
def True16 : Prop:=∀ (c1 : Array Value) (n1 : Nat) (c2 : Array Value) (n2 : Nat) (c3 : Array Value) (n3 : Nat) (age shear x0 x1 x2 : Int),GL L7 7 c1 n1 → GL L5 5 c2 n2 → GL L1 1 c3 n3 →
  (Lit.int .i64 age).wf = true → (Lit.int .i64 shear).wf = true → (Lit.int .i64 x0).wf = true → (Lit.int .i64 x1).wf = true → (Lit.int .u32 x2).wf = true →
  (rt16 c1 0 n1 c2 0 n2 c3 0 n3 age shear x0 x1 x2).val = some ⟨true⟩
theorem law16 (hm : True16) {c1 c2 c3 : Array Value} {n1 n2 n3 : Nat} {age shear x0 x1 x2 : Int} (h1 : GL L7 7 c1 n1) (h2 : GL L5 5 c2 n2) (h3 : GL L1 1 c3 n3) (w0 : (Lit.int .i64 age).wf = true) (w1 : (Lit.int .i64 shear).wf = true) (w2 : (Lit.int .i64 x0).wf = true) (w3 : (Lit.int .i64 x1).wf = true) (w4 : (Lit.int .u32 x2).wf = true) :
    Fact Try.prog (.call 16 ⟨[(.agg ⟨[(lstV c1 0 n1 7),(lstV c2 0 n2 5),(lstV c3 0 n3 1),(.int .i64 age),(.int .i64 shear)]⟩),(.agg ⟨[(.int .i64 x0),(.int .i64 x1)]⟩),(.int .u32 x2)]⟩ ⟨[],0,[]⟩) (.ret (.bool true) ⟨[],0,[]⟩):=by
  have e:=hm c1 n1 c2 n2 c3 n3 age shear x0 x1 x2 h1 h2 h3 w0 w1 w2 w3 w4
  refine known16 _ (alt16 ⟨c1,0,n1,c2,0,n2,c3,0,n3,age,shear,x0,x1,x2⟩ ⟨[],0,[]⟩) _ rfl ?_
  have e1 : F16 c1 0 n1 c2 0 n2 c3 0 n3 age shear x0 x1 x2 = some ⟨true⟩:=e
  simp only [alt16,F16_ok,F16_0,e1,AT.out,Option.isSome_some,cond_true]
set_option maxRecDepth 100000 in
theorem lifted16 (hm : True16) (os : Os) (started : os.Started) (H : Type) (enc : TypeId × Value → H) :
    ReturnsInHanded {} Try.checked os 16 .any (Rows.windFinerSpec.pre6 enc Try.prog Try.f16 Rows.windFinerRow.domain false) (Rows.windFinerSpec.post enc Try.prog Try.f16 false true false false):=by
  refine returnsInHanded_of_change (C:=Try.checked) own started (by kernel_rfl) Try.func16
    (ChangeSpec.witness6 (enc:=enc) (C:=Try.checked) false ⟨#[],#[.agg #[.slice none 0 0,.slice none 0 0,.slice none 0 0,.int .i64 0,.int .i64 0],.agg #[.int .i64 0,.int .i64 0],.int .u32 0],[]⟩ 16 (by kernel_rfl) (by kernel_rfl) (by kernel_rfl) (by kernel_rfl)) ?_
  intro W base args ds gs before hval0 hW hcnd _
  have hval : ∀ (j : Nat) t v,Try.f16.params[j]? = some t → args[j]? = some v → Value.okWide Try.prog W .any base t v:=hval0
  have hW':=hW
  obtain ⟨p,q,hA0,hV,rfl,hfz,hnd⟩:=hW
  have hA : DataW.TrodAll enc Try.prog W 0 (fun _=>true) true Try.f16.params.toList args.toList ds p:=hA0
  rw [Try.params16] at hA hval
  obtain ⟨v0,vs0,d0,ds0,p0,q0,hargs,rfl,rfl,h0,r0⟩:=trodAll_cons hA
  obtain ⟨v1,vs1,d1,ds1,p1,q1,rfl,rfl,rfl,h1,r1⟩:=trodAll_cons r0
  obtain ⟨v2,vs2,d2,ds2,p2,q2,rfl,rfl,rfl,h2,r2⟩:=trodAll_cons r1
  obtain ⟨rfl,rfl,rfl⟩:=trodAll_nil r2
  obtain rfl : args = #[v0,v1,v2]:=by cases args; simp_all
  obtain ⟨rfl,rfl⟩:=trodVars_none hV
  have k0:=h0
  have k1:=h1
  have k2:=h2
  have lt0 : ∀ x ∈ p0,x.block < W.heap.size:=by obtain ⟨m,hm⟩:=k0; exact DataW.trod_lt m _ _ _ hm
  have lt1 : ∀ x ∈ p1,x.block < W.heap.size:=by obtain ⟨m,hm⟩:=k1; exact DataW.trod_lt m _ _ _ hm
  have lt2 : ∀ x ∈ p2,x.block < W.heap.size:=by obtain ⟨m,hm⟩:=k2; exact DataW.trod_lt m _ _ _ hm
  obtain ⟨abs,u0,c1,n1,c2,n2,c3,n3,age,shear,rfl,g1,g2,g3,w4,w5⟩:=tskArg (hval 0 26 v0 rfl rfl) h0
  obtain ⟨x0,x1,u1,y0,y1⟩:=twoArg (hval 1 69 v1 rfl rfl) h1
  obtain ⟨x2,rfl,rfl,rfl,y2⟩:=open_int Try.underlying95 (hval 2 95 v2 rfl rfl) h2
  have u2 : VR (zAll W) (.int .u32 x2) (.int .u32 x2):=.int _ _
  clear hA0 hval0
  refine (calls_frozen (law16 hm (age:=age) (shear:=shear) (x0:=x0) (x1:=x1) (x2:=x2) g1 g2 g3 w4 w5 y0 y1 y2) rfl ((((VRs.nil _).push u0).push u1).push u2)).mono fun e W' ⟨he,bel⟩=>?_
  subst he
  exact ⟨_,rfl,_,_,_,[],_,[],hW',trodAll_mk1 (shut_bool Try.underlying4 _),(trodAll_cons_mk (Below.trod laidOut (by kernel_rfl) (of_decide_eq_true (by kernel_rfl)) k0 bel lt0) (trodAll_cons_mk (Below.trod laidOut (by kernel_rfl) (of_decide_eq_true (by kernel_rfl)) k1 bel lt1) (trodAll_cons_mk (Below.trod laidOut (by kernel_rfl) (of_decide_eq_true (by kernel_rfl)) k2 bel lt2) trodAll_mk0))),rfl,bel.frame _,fun h=>by cases h⟩
theorem over16 (hm : True16) : Rows.windFinerRow.holds Try.pinned (OpenSpec.ofChange Rows.windFinerSpec) :=
  OpenClaim.holds_of_wide 16 Try.f16 rfl rfl rfl rfl rfl rfl rfl ⟨rfl,rfl,rfl,rfl,rfl⟩ rfl rfl rfl rfl rfl (by kernel_rfl) Try.func16 (by kernel_rfl)
    (of_decide_eq_true (by kernel_rfl)) (by unfold Func.isWrapper; first | (rw [if_pos (by decide +kernel)]; kernel_rfl) | (rw [if_neg (by decide +kernel)]; exact ⟨rfl,rfl⟩))
    (fun os started H enc _=>lifted16 hm os started H enc)
theorem finer_of (hm : True16) : Rows.WindFinerSaid:=over16 hm
end Go.Proofs.Ytaglpbmnadlpgaa

namespace Go.Proofs.Ytaglpbmnadlpgaa
open Go.Gi Go.RowKit Go.Proofs.Ytaglpbmnadlpgaa.Old
noncomputable section
set_option maxRecDepth 100000
set_option linter.unusedVariables false
set_option linter.unusedSimpArgs false
theorem ap_arrI (L : List Int) (v : Int) {m : Nat} (h : m = L.length) : Array.extract (arrI L) 0 m ++ Array.extract ⟨[(Value.int .i64 v)]⟩ 0 1 = arrI (L ++ [v]):=by
  subst h
  have:=apB_arrI L v
  simp only [apB,Nat.zero_add,Nat.mul_one] at this
  exact this
theorem ap_none (v : Int) : Array.extract ⟨[(Value.int .i64 v)]⟩ 0 1 = arrI [v]:=rfl
theorem ad5 : decide ((Addr.mk 5 0 Option.none) = (Addr.mk 5 0 Option.none)) = true:=decide_eq_true rfl
section
variable {c0 c c3 : Array Value} {n n2 n3 k : Nat} {age shear x y cut : Int} {L : List Int}
theorem st16_1 (g3 : GL L1 1 c3 n3) (few : n3 ≤ 1000) (hk : k < n3) (h1 : 0 < k) (hl : L.length ≤ 1000) (q0 : ¬ getInt c3 k = cut) (q : ¬ cut < getInt c3 k ∨ ¬ getInt c3 (k - 1) < cut) :
    (rd16_0 ⟨some (arrI L,L.length),cut,(k : Int),c0,0,n,c,0,n2,c3,0,n3,age,shear,x,y,c0,0,n,c,0,n2,age,shear⟩).val = some (.inl ⟨some (arrI (L ++ [getInt c3 k]),L.length + 1),cut,((k + 1 : Nat) : Int),c0,0,n,c,0,n2,c3,0,n3,age,shear,x,y,c0,0,n,c,0,n2,age,shear⟩):=by
  have hki : (k : Int) < (n3 : Int):=by omega
  have h0 : (0 : Int) ≤ (k : Int):=by omega
  have hi : isInt .i64 c3 k = true:=g3.int hk
  have h3 : IntKind.wrap .i64 ((k : Int) + 1) = ((k + 1 : Nat) : Int):=by rw [wrap64_id (by omega) (by omega)]; omega
  have p0 : ¬ (k : Int) = 0:=by omega
  have p1 : IntKind.wrap .i64 ((k : Int) - 1) = ((k - 1 : Nat) : Int):=by rw [wrap64_id (by omega) (by omega)]; omega
  have p2 : (0 : Int) ≤ ((k - 1 : Nat) : Int):=by omega
  have p3 : ((k - 1 : Nat) : Int) < (n3 : Int):=by omega
  have p4 : isInt .i64 c3 (k - 1) = true:=g3.int (by omega)
  have b1 : (L.length + 1) * 8 ≤ 140737488355328:=by omega
  have b2 : L.length + 1 ≤ 4611686018427387904:=by omega
  have a1:=ap_arrI L (getInt c3 k) rfl
  by_cases q1 : cut < getInt c3 k
  · have q2 : ¬ getInt c3 (k - 1) < cut:=by rcases q with h | h; exact absurd q1 h; exact h
    simp only [rd16_0,RT.val,hki,h0,hi,h3,p0,p1,p2,p3,p4,q0,q1,q2,b1,b2,a1,apB,size_arrI,allFz_arrI,Int.ofNat_eq_natCast,Int.toNat_natCast,Nat.zero_add,Nat.mul_one,Nat.le_refl,decide_true,decide_false,Bool.and_self,Bool.and_true,Bool.true_and,cond_true,cond_false]
  · simp only [rd16_0,RT.val,hki,h0,hi,h3,q0,q1,b1,b2,a1,apB,size_arrI,allFz_arrI,Int.ofNat_eq_natCast,Int.toNat_natCast,Nat.zero_add,Nat.mul_one,Nat.le_refl,decide_true,decide_false,Bool.and_self,Bool.and_true,Bool.true_and,cond_true,cond_false]
theorem st16_2 (g3 : GL L1 1 c3 n3) (few : n3 ≤ 1000) (hk : k < n3) (h1 : 0 < k) (hl : L.length ≤ 1000) (q1 : cut < getInt c3 k) (q2 : getInt c3 (k - 1) < cut) :
    (rd16_0 ⟨some (arrI L,L.length),cut,(k : Int),c0,0,n,c,0,n2,c3,0,n3,age,shear,x,y,c0,0,n,c,0,n2,age,shear⟩).val = some (.inl ⟨some (arrI (L ++ [cut] ++ [getInt c3 k]),L.length + 1 + 1),cut,((k + 1 : Nat) : Int),c0,0,n,c,0,n2,c3,0,n3,age,shear,x,y,c0,0,n,c,0,n2,age,shear⟩):=by
  have q0 : ¬ getInt c3 k = cut:=by omega
  have hki : (k : Int) < (n3 : Int):=by omega
  have h0 : (0 : Int) ≤ (k : Int):=by omega
  have hi : isInt .i64 c3 k = true:=g3.int hk
  have h3 : IntKind.wrap .i64 ((k : Int) + 1) = ((k + 1 : Nat) : Int):=by rw [wrap64_id (by omega) (by omega)]; omega
  have p0 : ¬ (k : Int) = 0:=by omega
  have p1 : IntKind.wrap .i64 ((k : Int) - 1) = ((k - 1 : Nat) : Int):=by rw [wrap64_id (by omega) (by omega)]; omega
  have p2 : (0 : Int) ≤ ((k - 1 : Nat) : Int):=by omega
  have p3 : ((k - 1 : Nat) : Int) < (n3 : Int):=by omega
  have p4 : isInt .i64 c3 (k - 1) = true:=g3.int (by omega)
  have b1 : (L.length + 1) * 8 ≤ 140737488355328:=by omega
  have b2 : L.length + 1 ≤ 4611686018427387904:=by omega
  have b3 : (L.length + 1 + 1) * 8 ≤ 140737488355328:=by omega
  have b4 : L.length + 1 + 1 ≤ 4611686018427387904:=by omega
  have a1:=ap_arrI L cut rfl
  have a2:=ap_arrI (L ++ [cut]) (getInt c3 k) (m:=L.length + 1) (by simp)
  have z2 : Array.size (arrI (L ++ [cut])) = L.length + 1:=by rw [size_arrI]; simp
  simp only [rd16_0,RT.val,hki,h0,hi,h3,p0,p1,p2,p3,p4,q0,q1,q2,b1,b2,b3,b4,a1,a2,z2,apB,ad5,size_arrI,allFz_arrI,Int.ofNat_eq_natCast,Int.toNat_natCast,Nat.zero_add,Nat.mul_one,Nat.le_refl,decide_true,decide_false,Bool.and_self,Bool.and_true,Bool.true_and,cond_true,cond_false]
theorem st16_0 (g3 : GL L1 1 c3 n3) (few : n3 ≤ 1000) (hk : 0 < n3) (q0 : ¬ getInt c3 0 = cut) :
    (rd16_0 ⟨none,cut,0,c0,0,n,c,0,n2,c3,0,n3,age,shear,x,y,c0,0,n,c,0,n2,age,shear⟩).val = some (.inl ⟨some (if cut < getInt c3 0 then (arrI [cut,getInt c3 0],2) else (arrI [getInt c3 0],1)),cut,1,c0,0,n,c,0,n2,c3,0,n3,age,shear,x,y,c0,0,n,c,0,n2,age,shear⟩):=by
  have hki : (0 : Int) < (n3 : Int):=by omega
  have hi : isInt .i64 c3 0 = true:=g3.int hk
  have h3 : IntKind.wrap .i64 ((0 : Int) + 1) = 1:=by decide
  have h4 : Int.toNat 0 = 0:=rfl
  have a1 : Array.extract (Array.extract ⟨[(Value.int .i64 cut)]⟩ 0 1) 0 1 ++ Array.extract ⟨[(Value.int .i64 (getInt c3 0))]⟩ 0 1 = arrI [cut,getInt c3 0]:=ap_arrI [cut] (getInt c3 0) rfl
  by_cases q1 : cut < getInt c3 0
  · rw [if_pos q1]
    simp only [rd16_0,RT.val,hki,hi,h3,h4,q0,q1,a1,apB,Int.ofNat_eq_natCast,Nat.zero_add,Nat.mul_one,Int.le_refl,decide_true,decide_false,Bool.and_self,Bool.and_true,Bool.true_and,cond_true,cond_false]
  · rw [if_neg q1]
    simp only [rd16_0,RT.val,hki,hi,h3,h4,q0,q1,a1,apB,ap_none,Int.ofNat_eq_natCast,Nat.zero_add,Nat.mul_one,Int.le_refl,decide_true,decide_false,Bool.and_self,Bool.and_true,Bool.true_and,cond_true,cond_false]
def own16 (c3 : Array Value) (p : Nat) (cut : Int) (k : Nat) : Option (Array Value × Nat):=if k = 0 then none else some (arrI (mcL c3 p cut (if k ≤ p then k else k + 1)),if k ≤ p then k else k + 1)
theorem loop16a {p : Nat} (g3 : GL L1 1 c3 n3) (few : n3 ≤ 20) (up : ∀ k,0 < k → k < n3 → getInt c3 (k - 1) < getInt c3 k) (hp : p < n3) (low : ∀ i,i < p → getInt c3 i < cut) (high : cut ≤ getInt c3 p) {k : Nat} (hk : k < n3) (hne : ¬ (k = p ∧ cut = getInt c3 p)) :
    (rd16_0 ⟨own16 c3 p cut k,cut,(k : Int),c0,0,n,c,0,n2,c3,0,n3,age,shear,x,y,c0,0,n,c,0,n2,age,shear⟩).val = some (.inl ⟨own16 c3 p cut (k + 1),cut,((k + 1 : Nat) : Int),c0,0,n,c,0,n2,c3,0,n3,age,shear,x,y,c0,0,n,c,0,n2,age,shear⟩):=by
  have q0 : ¬ getInt c3 k = cut:=by
    intro h
    rcases Nat.lt_trichotomy k p with h1 | h1 | h1
    · have:=low k h1; omega
    · subst h1; exact hne ⟨rfl,h.symm⟩
    · have:=cuts_le up (k - 1) p (by omega) (by omega)
      have:=up k (by omega) hk
      omega
  rcases Nat.eq_zero_or_pos k with h0 | h0
  · subst h0
    have e:=st16_0 (c0:=c0) (c:=c) (n:=n) (n2:=n2) (age:=age) (shear:=shear) (x:=x) (y:=y) g3 (by omega) hk q0
    have e0 : own16 c3 p cut 0 = none:=by unfold own16; rw [if_pos rfl]
    rw [e0]
    refine Eq.trans e ?_
    have e1 : own16 c3 p cut (0 + 1) = some (if cut < getInt c3 0 then (arrI [cut,getInt c3 0],2) else (arrI [getInt c3 0],1)):=by
      unfold own16
      rw [if_neg (by omega)]
      by_cases h1 : cut < getInt c3 0
      · have hp0 : p = 0:=by
          apply Classical.byContradiction
          intro hn
          have:=low 0 (by omega); omega
        subst hp0
        rw [if_pos h1,if_neg (by omega)]
        rfl
      · have hp0 : 0 < p:=by
          apply Classical.byContradiction
          intro hn
          obtain rfl : p = 0:=by omega
          omega
        rw [if_neg h1,if_pos (by omega)]
        have : mcL c3 p cut (0 + 1) = [getInt c3 0]:=by
          simp [mcL,mc,hp0]
        rw [this]
    rw [e1]
    rfl
  · have e0 : own16 c3 p cut k = some (arrI (mcL c3 p cut (if k ≤ p then k else k + 1)),(mcL c3 p cut (if k ≤ p then k else k + 1)).length):=by
      unfold own16
      rw [if_neg (by omega),mcL_len]
    rw [e0]
    by_cases h1 : k = p
    · subst h1
      have e:=st16_2 (c0:=c0) (c:=c) (n:=n) (n2:=n2) (age:=age) (shear:=shear) (x:=x) (y:=y) (L:=mcL c3 k cut (if k ≤ k then k else k + 1)) g3 (by omega) hk h0 (by rw [mcL_len,if_pos (Nat.le_refl _)]; omega) (by omega) (low (k - 1) (by omega))
      rw [e]
      have e1 : own16 c3 k cut (k + 1) = some (arrI (mcL c3 k cut (if k ≤ k then k else k + 1) ++ [cut] ++ [getInt c3 k]),(mcL c3 k cut (if k ≤ k then k else k + 1)).length + 1 + 1):=by
        unfold own16
        rw [if_neg (by omega),if_neg (by omega),if_pos (Nat.le_refl _),mcL_len,mcL_next,mcL_next]
        have m1 : mc c3 k cut k = cut:=by unfold mc; rw [if_neg (by omega),if_pos rfl]
        have m2 : mc c3 k cut (k + 1) = getInt c3 k:=by unfold mc; rw [if_neg (by omega),if_neg (by omega)]; rfl
        rw [m1,m2]
      rw [e1]
    · have e:=st16_1 (c0:=c0) (c:=c) (n:=n) (n2:=n2) (age:=age) (shear:=shear) (x:=x) (y:=y) (L:=mcL c3 p cut (if k ≤ p then k else k + 1)) g3 (by omega) hk h0 (by rw [mcL_len]; split <;> omega) q0 (by
        rcases Nat.lt_or_ge k p with h2 | h2
        · left; have:=low k h2; omega
        · right; have:=cuts_le up (k - 1) p (by omega) (by omega); omega)
      rw [e]
      have e1 : own16 c3 p cut (k + 1) = some (arrI (mcL c3 p cut (if k ≤ p then k else k + 1) ++ [getInt c3 k]),(mcL c3 p cut (if k ≤ p then k else k + 1)).length + 1):=by
        unfold own16
        rw [if_neg (by omega),mcL_len]
        rcases Nat.lt_or_ge k p with h2 | h2
        · rw [if_pos (by omega),if_pos (by omega),mcL_next]
          have m1 : mc c3 p cut k = getInt c3 k:=by unfold mc; rw [if_pos h2]
          rw [m1]
        · rw [if_neg (by omega),if_neg (by omega),mcL_next]
          have m1 : mc c3 p cut (k + 1) = getInt c3 k:=by unfold mc; rw [if_neg (by omega),if_neg (by omega)]; rfl
          rw [m1]
      rw [e1]
theorem own16_pos {p k : Nat} (h : 0 < k) : own16 c3 p cut k = some (arrI (mcL c3 p cut (if k ≤ p then k else k + 1)),if k ≤ p then k else k + 1):=by
  unfold own16
  rw [if_neg (by omega)]
theorem loop16 {p : Nat} (g3 : GL L1 1 c3 n3) (few : n3 ≤ 20) (up : ∀ k,0 < k → k < n3 → getInt c3 (k - 1) < getInt c3 k) (h : AtCut c3 n3 p cut) : ∀ m k,k + m = n3 →
    loopR rd16_0 ⟨own16 c3 p cut k,cut,(k : Int),c0,0,n,c,0,n2,c3,0,n3,age,shear,x,y,c0,0,n,c,0,n2,age,shear⟩ =
    some (.k1 c0 0 n c 0 n2 c3 0 n3 age shear x y c0 0 n c 0 n2 (arrI (mcL c3 p cut (n3 + 1))) 0 (n3 + 1) age shear)
  | 0,k,e=>by
    obtain rfl : k = n3:=by omega
    have hp:=h.lt
    rw [own16_pos (by omega),if_neg (by omega)]
    refine loopR_done ?_
    have h1 : ¬ ((k : Int) < (k : Int)):=by omega
    simp only [rd16_0,RT.val,h1,size_arrI,mcL_len,allFz_arrI,Int.ofNat_eq_natCast,Nat.zero_add,Nat.mul_one,Nat.le_refl,decide_true,decide_false,Bool.and_self,cond_true,cond_false]
  | m + 1,k,e=>(loopR_next (loop16a g3 few up h.lt h.low (Int.le_of_lt h.high) (by omega) (fun hh=>by have:=h.high; omega))).trans (loop16 g3 few up h m (k + 1) (by omega))
theorem loop16e {p : Nat} (g3 : GL L1 1 c3 n3) (few : n3 ≤ 20) (up : ∀ k,0 < k → k < n3 → getInt c3 (k - 1) < getInt c3 k) (hp : p < n3) (low : ∀ i,i < p → getInt c3 i < cut) (he : cut = getInt c3 p) : ∀ m k,k + m = p → ∃ A l,
    loopR rd16_0 ⟨own16 c3 p cut k,cut,(k : Int),c0,0,n,c,0,n2,c3,0,n3,age,shear,x,y,c0,0,n,c,0,n2,age,shear⟩ =
    some (.k0 true c0 0 n c 0 n2 c3 0 n3 age shear x y c0 0 n c 0 n2 A 0 l age shear)
  | 0,k,e=>by
    obtain rfl : k = p:=by omega
    have hki : (k : Int) < (n3 : Int):=by omega
    have h0 : (0 : Int) ≤ (k : Int):=by omega
    have hi : isInt .i64 c3 k = true:=g3.int hp
    have q0 : getInt c3 k = cut:=he.symm
    rcases Nat.eq_zero_or_pos k with hk0 | hk0
    · refine ⟨⟨[]⟩,0,loopR_done ?_⟩
      have e0 : own16 c3 k cut k = none:=by unfold own16; rw [if_pos hk0]
      rw [e0]
      simp only [rd16_0,RT.val,hki,h0,hi,q0,Int.ofNat_eq_natCast,Int.toNat_natCast,Nat.zero_add,Nat.mul_one,decide_true,Bool.and_self,cond_true]
    · refine ⟨arrI (mcL c3 k cut (if k ≤ k then k else k + 1)),if k ≤ k then k else k + 1,loopR_done ?_⟩
      rw [own16_pos hk0]
      simp only [rd16_0,RT.val,hki,h0,hi,q0,size_arrI,mcL_len,allFz_arrI,Int.ofNat_eq_natCast,Int.toNat_natCast,Nat.zero_add,Nat.mul_one,Nat.le_refl,decide_true,Bool.and_self,cond_true]
  | m + 1,k,e=>by
    obtain ⟨A,l,h⟩:=loop16e g3 few up hp low he m (k + 1) (by omega)
    exact ⟨A,l,(loopR_next (loop16a g3 few up hp low (by omega) (by omega) (fun hh=>by omega))).trans h⟩
theorem first_ge {P : Int} : ∀ m k,k + m = n3 → (∀ i,i < k → getInt c3 i < P) → (∃ i,k ≤ i ∧ i < n3 ∧ P ≤ getInt c3 i) → ∃ p,p < n3 ∧ (∀ i,i < p → getInt c3 i < P) ∧ P ≤ getInt c3 p
  | 0,k,e,_,⟨i,h1,h2,_⟩=>by omega
  | m + 1,k,e,hl,⟨i,h1,h2,h3⟩=>by
    by_cases h : P ≤ getInt c3 k
    · exact ⟨k,by omega,hl,h⟩
    · refine first_ge m (k + 1) (by omega) (fun j hj=>?_) ⟨i,?_,h2,h3⟩
      · rcases Nat.lt_or_ge j k with h4 | h4
        · exact hl j h4
        · obtain rfl : j = k:=by omega
          omega
      · rcases Nat.eq_or_lt_of_le h1 with h4 | h4
        · subst h4; exact absurd h3 h
        · exact h4
end
theorem u32_in {x : Int} (h : (Lit.int .u32 x).wf = true) : 0 ≤ x ∧ x ≤ 4294967295:=by
  simp only [Lit.wf,Bool.and_eq_true,decide_eq_true_eq] at h
  exact h
theorem true16 : True16:=by
  intro c1 n1 c2 n2 c3 n3 age shear x0 x1 x2 g1 g2 g3 _ _ _ _ wx
  have hx:=u32_in wx
  have hok:=F20_ok_of (age:=age) (shear:=shear) g1 g2 g3
  by_cases hz : F20_2 c1 0 n1 c2 0 n2 c3 0 n3 age shear = 0
  · obtain ⟨hv,hn,hc⟩:=vld g1 g2 g3 hz
    have up:=cuts_up g1 g2 g3 hz
    have w1 : IntKind.wrap .i64 ((n3 : Int) - 1) = ((n3 - 1 : Nat) : Int):=by rw [wrap64_id (by omega) (by omega)]; omega
    have p1 : (0 : Int) ≤ ((n3 - 1 : Nat) : Int):=by omega
    have p2 : ((n3 - 1 : Nat) : Int) < (n3 : Int):=by omega
    have p3 : ¬ (n3 : Int) = 0:=by omega
    have hi : isInt .i64 c3 (n3 - 1) = true:=g3.int (by omega)
    by_cases h2 : getInt c3 (n3 - 1) < 2
    · unfold rt16
      simp only [RT.val,hok,hz,w1,p1,p2,p3,hi,h2,Int.ofNat_eq_natCast,Int.toNat_natCast,Nat.zero_add,Nat.mul_one,decide_true,decide_false,Bool.and_self,Bool.not_true,cond_true,cond_false]
    · have hl:=hc (n3 - 1) (by omega)
      have w2 : IntKind.wrap .i64 (getInt c3 (n3 - 1) - 1) = getInt c3 (n3 - 1) - 1:=wrap64_id (by omega) (by omega)
      have w3 : IntKind.wrap .i64 x2 = x2:=wrap64_id (by omega) (by omega)
      have p4 : ¬ (getInt c3 (n3 - 1) - 1 = 0):=by omega
      have t1:=Int.tmod_nonneg (getInt c3 (n3 - 1) - 1) hx.1
      have t2:=Int.tmod_lt_of_pos x2 (show (0 : Int) < getInt c3 (n3 - 1) - 1 by omega)
      obtain ⟨cut,hcut⟩ : ∃ cut,cut = 1 + Int.tmod x2 (getInt c3 (n3 - 1) - 1):=⟨_,rfl⟩
      have w4 : IntKind.wrap .i64 (1 + Int.tmod x2 (getInt c3 (n3 - 1) - 1)) = cut:=by rw [hcut]; exact wrap64_id (by omega) (by omega)
      obtain ⟨p,hp,low,high⟩:=first_ge (c3:=c3) (n3:=n3) (P:=cut) n3 0 (by omega) (fun i hi=>by omega) ⟨n3 - 1,by omega,by omega,by omega⟩
      have e0 : own16 c3 p cut 0 = none:=by unfold own16; rw [if_pos rfl]
      by_cases he : cut = getInt c3 p
      · obtain ⟨A,l,hL⟩:=loop16e (c0:=c1) (c:=c2) (n:=n1) (n2:=n2) (age:=age) (shear:=shear) (x:=x0) (y:=x1) g3 (by omega) up hp low he p 0 (by omega)
        rw [e0] at hL
        have hL' : L16_0 ⟨none,cut,0,c1,0,n1,c2,0,n2,c3,0,n3,age,shear,x0,x1,c1,0,n1,c2,0,n2,age,shear⟩ = _:=hL
        unfold rt16
        simp only [RT.val,hok,hz,w1,w2,w3,w4,p1,p2,p3,p4,hi,h2,Int.ofNat_eq_natCast,Int.toNat_natCast,Nat.zero_add,Nat.mul_one,eqCode_self,L16_0_k0,L16_0_k0_0,hL',decide_true,decide_false,Bool.and_self,Bool.not_true,Bool.not_false,cond_true,cond_false]
      · have hA : AtCut c3 n3 p cut:=⟨by omega,hp,low,by omega⟩
        have hL:=loop16 (c0:=c1) (c:=c2) (n:=n1) (n2:=n2) (age:=age) (shear:=shear) (x:=x0) (y:=x1) g3 (by omega) up hA n3 0 (by omega)
        rw [e0] at hL
        have hL' : L16_0 ⟨none,cut,0,c1,0,n1,c2,0,n2,c3,0,n3,age,shear,x0,x1,c1,0,n1,c2,0,n2,age,shear⟩ = _:=hL
        have g4 : GL L1 1 (arrI (mcL c3 p cut (n3 + 1))) (n3 + 1):=by
          have hm : maxLen = 9223372036854775807:=rfl
          have:=GL1_arrI (L:=mcL c3 p cut (n3 + 1)) (by rw [mcL_len]; omega)
          rwa [mcL_len] at this
        unfold rt16
        simp only [RT.val,hok,hz,w1,w2,w3,w4,p1,p2,p3,p4,hi,h2,Int.ofNat_eq_natCast,Int.toNat_natCast,Nat.zero_add,Nat.mul_one,eqCode_self,L16_0_k0,L16_0_k1,L16_0_k1_0,L16_0_k1_1,L16_0_k1_2,L16_0_k1_3,L16_0_k1_4,L16_0_k1_5,L16_0_k1_6,L16_0_k1_7,L16_0_k1_8,L16_0_k1_9,L16_0_k1_10,L16_0_k1_11,L16_0_k1_12,
          L16_0_k1_13,L16_0_k1_14,L16_0_k1_15,L16_0_k1_16,L16_0_k1_17,L16_0_k1_18,L16_0_k1_19,L16_0_k1_20,L16_0_k1_21,L16_0_k1_22,L16_0_k1_23,hL',decide_true,decide_false,Bool.and_self,Bool.not_true,Bool.not_false,cond_true,cond_false]
        by_cases hall : F20_2 c1 0 n1 c2 0 n2 (arrI (mcL c3 p cut (n3 + 1))) 0 (n3 + 1) age shear = 0 ∧ (tkB x0 && tkB x1) = true ∧ agB c1 c2 (arrI (mcL c3 p cut (n3 + 1))) n2 age shear x0 x1 (n3 + 1) 0 = true
        · obtain ⟨hz2,hxy,ha⟩:=hall
          obtain ⟨R,S,⟨r1,r2,r3,r4,r5⟩,⟨s1,s2,s3,s4,s5⟩,f1,f2,f3⟩:=finer hA g1 g2 g3 hz hz2 hxy ha
          simp only [r1,r2,r3,r4,r5,s1,s2,s3,s4,s5,f1,f2,f3,decide_true,Bool.not_true,cond_true,cond_false]
        · obtain ⟨k1,k5⟩:=F58_no (x:=x0) (y:=x1) (age:=age) (shear:=shear) g1 g2 g4 (fun h1 h2 h3=>hall ⟨h1,h2,h3⟩)
          simp only [k1,k5,Bool.not_false,cond_true]
  · unfold rt16
    simp only [RT.val,hok,hz,decide_false,Bool.not_false,cond_true]
theorem windFinerProved : Rows.WindFinerSaid:=finer_of true16
end
end Go.Proofs.Ytaglpbmnadlpgaa

