/- Part 10 of the texts below the claim. Conditions: none. -/
import Derived.Test.YtoojllndfjamgaaMg7
import Derived.Test.YtoojllndfjamgaaMg9
import Derived.Test.YtoojllndfjamgaaMg8
import Derived.Test.YtoojllndfjamgaaMg6
set_option linter.unusedVariables false
set_option linter.unusedSimpArgs false
namespace Go.Proofs.Ytoojllndfjamgaa
open Go.Gi Go.RowKit
noncomputable section
set_option maxRecDepth 100000
set_option maxHeartbeats 2000000
theorem F45_of (n lo hi:Int):F45_ok n lo hi=true∧F45_0 n lo hi=inB n lo hi:=by
  have q:F45 n lo hi=some ⟨inB n lo hi⟩:=by
    unfold F45 rt45 inB
    by_cases h:lo≤n<;>simp [RT.val,h]
  exact ⟨by simp only [F45_ok,q];rfl,by simp only [F45_0,q]⟩
theorem row4r {c:Array Value}{n k:Nat}(h:GL C4 4 c n) (hk:k<n):rdOk c C4 (0+k*4)=true:=h.good.2 k hk
theorem rd_and {c:Array Value}{l:Leaf}{L:List Leaf}{i:Nat}(h:rdOk c (l::L) i=true):(rdLeaf c l i).1=true∧rdOk c L (i+1)=true:=by
  simpa only [rdOk,Bool.and_eq_true] using h
section
variable {cc:Array Value}{nc k:Nat}{s nm nmj:ByteArray}{ws dp w e p wj ej pj:Int}
theorem step46a (g:GL C4 4 cc nc)(few:nc≤1000)(hk:k≤nc)(j:Nat)(hj:j<k):(rd46_0 ⟨(k:Int),(j:Int),s,ws,dp,cc,0,nc,nm,w,e,p⟩).val =
    some (if twE cc nm j=0 then .inl ⟨(k:Int),((j+1:Nat):Int),s,ws,dp,cc,0,nc,nm,w,e,p⟩ else .inr (.k0 5 s ws dp cc 0 nc nm w e p)):=by
  have hji:(j:Int)<(k:Int):=by omega
  have hjn:(j:Int)<(nc:Int):=by omega
  have h0:(0:Int)≤(j:Int):=by omega
  have h3:IntKind.wrap .i64 ((j:Int)+1)=((j+1:Nat):Int):=by rw [wrap64_id (by omega) (by omega)];omega
  have hr:isStr cc (0+j*4)=true:=(rd_and (row4r g (by omega))).1
  unfold twE
  simp only [rd46_0,RT.val,hji,hjn,h0,h3,hr,Int.toNat_natCast,Int.ofNat_eq_natCast,Nat.add_zero,decide_true,Bool.and_self,cond_true]
  cases strEq (getStr cc (0+j*4)) nm<;>rfl
theorem step46c (j:Nat)(hE:1≤ej)(he:1≤e)(n:Nat)(hn:n<16):(rd46_2 ⟨(k:Int),(j:Int),(n:Int),s,ws,dp,cc,0,nc,nm,w,e,p,nmj,wj,ej,pj⟩).val =
    some (if coN wj ej pj w e p n=0 then .inl ⟨(k:Int),(j:Int),((n+1:Nat):Int),s,ws,dp,cc,0,nc,nm,w,e,p,nmj,wj,ej,pj⟩ else .inr (.k0 2 s ws dp cc 0 nc nm w e p nmj wj ej pj)):=by
  have hn2:(n:Int)<16:=by omega
  have h3:IntKind.wrap .i64 ((n:Int)+1)=((n+1:Nat):Int):=by rw [wrap64_id (by omega) (by omega)];omega
  have m1:¬ej=0:=by omega
  have m2:¬e=0:=by omega
  unfold coN
  simp only [rd46_2,RT.val,hn2,h3,m1,m2,decide_true,decide_false,Bool.not_false,cond_true]
  by_cases c1:wj=w
  · by_cases c2:Int.tmod (n:Int) ej=pj
    · by_cases c3:Int.tmod (n:Int) e=p
      · simp only [c1,c2,c3,if_true,decide_true,cond_true];rfl
      · simp only [c1,c2,c3,if_true,if_false,decide_true,decide_false,cond_true,cond_false]
    · simp only [c1,c2,if_true,if_false,decide_true,decide_false,cond_true,cond_false]
  · simp only [c1,if_true,if_false,decide_false,cond_false]
theorem step46b (g:GL C4 4 cc nc)(few:nc≤1000)(hk:k≤nc)(he:1≤e)(hv:∀j,j<k→1≤getInt cc (0+j*4+1+1))(j:Nat)(hj:j<k):(rd46_1 ⟨(k:Int),(j:Int),s,ws,dp,cc,0,nc,nm,w,e,p⟩).val =
    some (if coR cc w e p j=0 then .inl ⟨(k:Int),((j+1:Nat):Int),s,ws,dp,cc,0,nc,nm,w,e,p⟩ else .inr (.k0 2 s ws dp cc 0 nc nm w e p)):=by
  have hji:(j:Int)<(k:Int):=by omega
  have hjn:(j:Int)<(nc:Int):=by omega
  have h0:(0:Int)≤(j:Int):=by omega
  have h3:IntKind.wrap .i64 ((j:Int)+1)=((j+1:Nat):Int):=by rw [wrap64_id (by omega) (by omega)];omega
  have hr:rdOk cc C4 (0+j*4)=true:=row4r g (by omega)
  unfold C4 at hr
  have hE:=hv j hj
  unfold coR
  simp only [rd46_1,RT.val,hji,hjn,h0,hr,Int.toNat_natCast,Int.ofNat_eq_natCast,decide_true,Bool.and_self,cond_true]
  generalize getStr cc (0+j*4)=nmj
  generalize getInt cc (0+j*4+1)=wj
  generalize getInt cc (0+j*4+1+1+1)=pj
  revert hE
  generalize getInt cc (0+j*4+1+1)=ej
  intro hE
  have l:L46_2 (X46_2.mk (k:Int) (j:Int) 0 s ws dp cc 0 nc nm w e p nmj wj ej pj)=some (match fst1 (coN wj ej pj w e p) 16 0 with | some (i,r)=>.k0 2 s ws dp cc 0 nc nm w e p nmj wj ej pj | none=>.k1 (k:Int) (j:Int) s ws dp cc 0 nc nm w e p nmj wj ej pj) :=
    loop_fst (rd:=rd46_2) (S:=fun n=>X46_2.mk (k:Int) (j:Int) (n:Int) s ws dp cc 0 nc nm w e p nmj wj ej pj) (E:=coN wj ej pj w e p) (n:=16) (err:=fun _ _=>.k0 2 s ws dp cc 0 nc nm w e p nmj wj ej pj) (fin:=.k1 (k:Int) (j:Int) s ws dp cc 0 nc nm w e p nmj wj ej pj)
      (fun n hn=>step46c j hE he n hn) (by
        have h1:¬((16:Nat):Int)<16:=by omega
        simp only [rd46_2,RT.val,h1,decide_false,cond_false]) 16 0 (by omega)
  cases hf:fst1 (coN wj ej pj w e p) 16 0 with
  | some ir =>
    rw [hf]at l
    simp only [L46_2_k0,Qh0,Qh1,Qh2,Qh3,Qh4,Qh5,Qh6,Qh7,Qh8,Qh9,Qh10,l,Option.isSome_some,if_true,cond_true]
    rfl
  | none =>
    rw [hf]at l
    simp only [L46_2_k0,L46_2_k1,Qi0,Qi1,Qi2,Qi3,Qi4,Qi5,Qi6,Qi7,Qi8,Qi9,Qi10,Qi11,l,h3,Option.isSome_none,Bool.false_eq_true,if_true,if_false,cond_true,cond_false]
theorem F46_of (g:GL C4 4 cc nc)(few:nc≤1000)(hkn:k<nc)(hv:∀j,j<k→chX coR ws dp cc j=0) :
    F46_ok s ws dp cc 0 nc (k:Int)=true∧F46_0 s ws dp cc 0 nc (k:Int)=chX coR ws dp cc k:=by
  have hv2:∀j,j<k→1≤getInt cc (0+j*4+1+1):=fun j hj=>by
    have:=ch_rg (hv j hj)
    simp only [rgB,Bool.and_eq_true,decide_eq_true_eq]at this
    exact this.2.1.1
  have hki:(k:Int)<(nc:Int):=by omega
  have h0:(0:Int)≤(k:Int):=by omega
  have hr:rdOk cc C4 (0+k*4)=true:=row4r g hkn
  unfold C4 at hr
  have q:F46 s ws dp cc 0 nc (k:Int)=some ⟨chX coR ws dp cc k⟩:=by
    unfold F46 rt46 chX
    simp only [RT.val,hki,h0,hr,(F85_of).1,(F85_of).2,Int.toNat_natCast,Int.ofNat_eq_natCast,decide_true,Bool.and_self,cond_true]
    obtain ⟨nm,hnm⟩:∃x,getStr cc (0+k*4)=x:=⟨_,rfl⟩
    obtain ⟨w,hw⟩:∃x,getInt cc (0+k*4+1)=x:=⟨_,rfl⟩
    obtain ⟨e,he⟩:∃x,getInt cc (0+k*4+1+1)=x:=⟨_,rfl⟩
    obtain ⟨p,hp⟩:∃x,getInt cc (0+k*4+1+1+1)=x:=⟨_,rfl⟩
    simp only [hnm,hw,he,hp]
    have i2:¬(k:Int)<(k:Int):=by omega
    have la:L46_0 (X46_0.mk (k:Int) 0 s ws dp cc 0 nc nm w e p)=some (match fst1 (twE cc nm) k 0 with | some (i,r)=>.k0 5 s ws dp cc 0 nc nm w e p | none=>.k1 (k:Int) s ws dp cc 0 nc nm w e p) :=
      loop_fst (rd:=rd46_0) (S:=fun j=>X46_0.mk (k:Int) (j:Int) s ws dp cc 0 nc nm w e p) (E:=twE cc nm) (n:=k) (err:=fun _ _=>.k0 5 s ws dp cc 0 nc nm w e p) (fin:=.k1 (k:Int) s ws dp cc 0 nc nm w e p)
        (fun j hj=>step46a g few (by omega) j hj) (by simp only [rd46_0,RT.val,i2,decide_false,cond_false]) k 0 (by omega)
    cases nmB nm with
    | false=>rfl
    | true =>
    simp only [Bool.not_true,cond_false,if_true]
    cases ha:fst1 (twE cc nm) k 0 with
    | some ir =>
      obtain ⟨i,r⟩:=ir
      rw [ha]at la
      simp only [L46_0_k0,Qf0,la,Option.isSome_some,cond_true,if_true]
    | none =>
    rw [ha]at la
    simp only [L46_0_k0,L46_0_k1,Qg0,Qg1,Qg2,Qg3,Qg4,Qg5,Qg6,Qg7,Qg8,Qg9,Qg10,la,(F45_of _ _ _).1,(F45_of _ _ _).2,Option.isSome_none,Bool.false_eq_true,if_false,cond_true,cond_false]
    unfold rgB
    cases h1:inB w 0 (IntKind.wrap .i64 (ws-1)) with
    | false=>rfl
    | true =>
    simp only [Bool.not_true,Bool.true_and,cond_false]
    by_cases e1:e<1
    · have e2:¬1≤e:=by omega
      simp only [e1,e2,decide_true,decide_false,Bool.false_and,Bool.false_eq_true,if_false,cond_true]
    have e2:1≤e:=by omega
    have e3:¬e=0:=by omega
    simp only [e1,e2,e3,decide_true,decide_false,Bool.true_and,Bool.not_false,cond_true,cond_false]
    by_cases e4:Int.tmod dp e=0
    case neg=>simp only [e4,decide_false,Bool.false_and,Bool.not_false,Bool.false_eq_true,if_false,cond_true]
    simp only [e4,decide_true,Bool.true_and,Bool.not_true,cond_false]
    cases h3:inB p 0 (IntKind.wrap .i64 (e-1)) with
    | false=>rfl
    | true =>
    simp only [Bool.not_true,cond_false,if_true]
    have lb:L46_1 (X46_1.mk (k:Int) 0 s ws dp cc 0 nc nm w e p)=some (match fst1 (coR cc w e p) k 0 with | some (i,r)=>.k0 2 s ws dp cc 0 nc nm w e p | none=>.k1 s ws dp cc 0 nc nm w e p) :=
      loop_fst (rd:=rd46_1) (S:=fun j=>X46_1.mk (k:Int) (j:Int) s ws dp cc 0 nc nm w e p) (E:=coR cc w e p) (n:=k) (err:=fun _ _=>.k0 2 s ws dp cc 0 nc nm w e p) (fin:=.k1 s ws dp cc 0 nc nm w e p)
        (fun j hj=>step46b g few (by omega) e2 hv2 j hj) (by simp only [rd46_1,RT.val,i2,decide_false,cond_false]) k 0 (by omega)
    cases hb:fst1 (coR cc w e p) k 0 with
    | some ir =>
      obtain ⟨i,r⟩:=ir
      rw [hb]at lb
      simp only [L46_1_k0,Qj0,lb,Option.isSome_some,cond_true,if_true]
    | none =>
      rw [hb]at lb
      simp only [L46_1_k0,L46_1_k1,lb,Option.isSome_none,Bool.false_eq_true,if_false,cond_true,cond_false]
  exact ⟨by simp only [F46_ok,q];rfl,by simp only [F46_0,q]⟩
theorem step16 (g:GL C4 4 cc nc)(few:nc≤1000)(hd:dpB dp=true)(k:Nat)(hk:k<nc)(hv:∀j,j<k→chX coP ws dp cc j=0) :
    (rd16_0 ⟨(k:Int),s,ws,dp,cc,0,nc⟩).val =
    some (if chX coP ws dp cc k=0 then .inl ⟨((k+1:Nat):Int),s,ws,dp,cc,0,nc⟩ else .inr (.k0 2 (k:Int) (chX coP ws dp cc k) s ws dp cc 0 nc)):=by
  have hki:(k:Int)<(nc:Int):=by omega
  have h3:IntKind.wrap .i64 ((k:Int)+1)=((k+1:Nat):Int):=by rw [wrap64_id (by omega) (by omega)];omega
  have hv2:∀j,j<k→chX coR ws dp cc j=0:=fun j hj=>by rw [ch_same hd (fun i hi=>hv i (by omega))];exact hv j hj
  obtain ⟨o,e⟩:=F46_of (s:=s) g few hk hv2
  rw [ch_same hd hv]at e
  simp only [rd16_0,RT.val,hki,h3,o,e,Int.ofNat_eq_natCast,decide_true,cond_true]
  by_cases hz:chX coP ws dp cc k=0
  · simp only [hz,decide_true,Bool.not_true,cond_false,if_true]
  · simp only [hz,decide_false,Bool.not_false,cond_true,if_false]
theorem F16_eq (g:GL C4 4 cc nc):F16 s ws dp cc 0 nc=some ⟨(ckF s ws dp cc nc).1,(ckF s ws dp cc nc).2.1,(ckF s ws dp cc nc).2.2⟩:=by
  unfold F16 rt16 ckF
  simp only [RT.val,(F45_of _ _ _).1,(F45_of _ _ _).2,Int.ofNat_eq_natCast,cond_true]
  cases inB (s.size:Int) 1 4 with
  | false=>rfl
  | true =>
  simp only [Bool.not_true,cond_false,if_true]
  by_cases h2:12<nc
  · have i2:(12:Int)<(nc:Int):=by omega
    rw [if_pos h2]
    simp only [i2,decide_true,cond_true]
  have i2:¬(12:Int)<(nc:Int):=by omega
  rw [if_neg h2]
  simp only [i2,decide_false,cond_false]
  have z1:¬(nc:Int)<(nc:Int):=by omega
  have l0:dpB dp=true→L16_0 (X16_0.mk 0 s ws dp cc 0 nc)=some (match fst1 (chX coP ws dp cc) nc 0 with | some (i,r)=>.k0 2 (i:Int) r s ws dp cc 0 nc | none=>.k1 s ws dp cc 0 nc):=fun hd =>
    loop_fst2 (rd:=rd16_0) (S:=fun k=>X16_0.mk (k:Int) s ws dp cc 0 nc) (E:=chX coP ws dp cc) (n:=nc) (err:=fun i r=>.k0 2 (i:Int) r s ws dp cc 0 nc) (fin:=.k1 s ws dp cc 0 nc)
      (fun k hk h=>step16 g (by omega) hd k hk h) (by simp only [rd16_0,RT.val,z1,Int.ofNat_eq_natCast,decide_false,cond_false]) nc 0 (by omega) (fun j hj=>absurd hj (Nat.not_lt_zero _))
  revert l0
  unfold dpB
  generalize decide (dp=1)=d1
  generalize decide (dp=2)=d2
  generalize decide (dp=4)=d3
  generalize decide (dp=8)=d4
  generalize decide (dp=16)=d5
  intro l0
  cases inB ws 1 32<;>cases d1<;>cases d2<;>cases d3<;>cases d4<;>cases d5
  all_goals first | rfl | skip
  all_goals
    have l0:=l0 rfl
    cases hf:fst1 (chX coP ws dp cc) nc 0 with
    | some ir =>
      obtain ⟨i,r⟩:=ir
      rw [hf]at l0
      simp only [hf,L16_0_k0,Ql0,Ql1,Ql2,l0,Bool.not_true,Bool.not_false,Bool.true_or,Bool.or_true,Bool.false_or,Bool.or_false,Bool.or_self,Bool.false_eq_true,if_true,if_false,cond_true,cond_false]
    | none =>
      rw [hf]at l0
      simp only [hf,L16_0_k0,L16_0_k1,l0,Bool.not_true,Bool.not_false,Bool.true_or,Bool.or_true,Bool.false_or,Bool.or_false,Bool.or_self,Bool.false_eq_true,if_true,if_false,cond_true,cond_false]
end
end
end Go.Proofs.Ytoojllndfjamgaa
namespace Go.Proofs.Ytoojllndfjamgaa
open Go.Gi Go.RowKit Go.Proofs.Ytoojllndfjamgaa.Old
noncomputable section
set_option maxRecDepth 100000
set_option maxHeartbeats 4000000
structure R52 where
  r0:Int
structure A52 where
  a0:ByteArray
  a1:Int
  a2:Int
  a3:Array Value
  a4:Nat
  a5:Nat
def rt52 (a0:ByteArray)(a1:Int)(a2:Int)(a3:Array Value)(a4:Nat)(a5:Nat):RT R52 :=
  .br (F16_ok a0 a1 a2 (a3) a4 a5) (.leaf ⟨(F16_2 a0 a1 a2 (a3) a4 a5)⟩) (.no)
def en52 (r:R52):Value:=(.int .i64 r.r0)
theorem T52  (a0:ByteArray) (a1:Int) (a2:Int) (a3:Array Value) (a4:Nat) (a5:Nat):evC Try.prog (Ans.c p16) 60 (.call 52 ⟨[(.agg ⟨[(.string a0),(.int .i64 a1),(.int .i64 a2),(lstV a3 a4 a5 4)]⟩)]⟩ ⟨[],0,[]⟩) (frzK [0])=(rt52 a0 a1 a2 a3 a4 a5).out (fun r=>.ret (en52 r) ⟨[],0,[]⟩):=by kernel_rfl
def F52 (a0:ByteArray)(a1:Int)(a2:Int)(a3:Array Value)(a4:Nat)(a5:Nat):Option R52:=(rt52 a0 a1 a2 a3 a4 a5).val
section
variable (a0:ByteArray) (a1:Int) (a2:Int) (a3:Array Value) (a4:Nat) (a5:Nat)
def F52_ok:Bool:=(F52 a0 a1 a2 a3 a4 a5).isSome
def F52_0:Int:=match F52 a0 a1 a2 a3 a4 a5 with | some r=>r.r0 | none=>0
end
def dec52:Task→Option (A52×Hp)
  | .call g ⟨[(.agg ⟨[(.string a0),(.int .i64 a1),(.int .i64 a2),(.func (.via 0 ⟨[]⟩ 0 true) a3 ⟨[.slice (some ⟨0,a4,none⟩) a5 4]⟩)]⟩)]⟩ h=>(match Nat.beq g 52 with | true=>some (⟨a0,a1,a2,a3,a4,a5⟩,h) | false=>none)
  | _=>none
def alt52 (x:A52)(h:Hp):AT:=.br (F52_ok x.a0 x.a1 x.a2 x.a3 x.a4 x.a5) (.leaf (.ret (.int .i64 (F52_0 x.a0 x.a1 x.a2 x.a3 x.a4 x.a5)) h)) .no
def p52:Ans:=fnAns dec52 alt52
theorem ha52:∀(x:A52) (h:Hp)(o:Out),(alt52 x h).out=some o→∃r,(rt52 x.a0 x.a1 x.a2 x.a3 x.a4 x.a5).val=some r∧o=.ret (en52 r) h:=by
  intro x h o e
  unfold alt52 at e
  simp only [AT.out]at e
  obtain ⟨g,e⟩:=cond_some e
  unfold F52_ok at g
  obtain ⟨r,hF⟩:=Option.isSome_iff_exists.1 g
  have hv:F52 x.a0 x.a1 x.a2 x.a3 x.a4 x.a5=(rt52 x.a0 x.a1 x.a2 x.a3 x.a4 x.a5).val:=by delta F52;exact rfl
  refine ⟨r,hv.symm.trans hF,?_⟩
  simp only [Option.some.injEq]at e
  rw [← e]
  have k0:F52_0 x.a0 x.a1 x.a2 x.a3 x.a4 x.a5=r.r0:=by
    show (match F52 x.a0 x.a1 x.a2 x.a3 x.a4 x.a5 with | some r=>r.r0 | none=>0)=r.r0
    rw [hF]
  rw [k0]<;>rfl
theorem hd52:∀(t:Task) (x:A52)(h:Hp),dec52 t=some (x,h)→t=.call 52 ⟨[(.agg ⟨[(.string x.a0),(.int .i64 x.a1),(.int .i64 x.a2),(lstV x.a3 x.a4 x.a5 4)]⟩)]⟩ h:=by
  intro t x h e
  unfold dec52 at e
  split at e
  case h_2=>cases e
  split at e
  case h_2=>cases e
  rename_i hg
  simp only [Option.some.injEq,Prod.mk.injEq]at e
  obtain ⟨rfl,rfl⟩:=e
  rw [Nat.eq_of_beq_eq_true hg]
theorem known52:Known Try.prog p52:=by
  exact Known.fn noNG mixed known16 (n:=60) (zs:=[0]) 52 (fun x:A52=>[(.agg ⟨[(.string x.a0),(.int .i64 x.a1),(.int .i64 x.a2),(lstV x.a3 x.a4 x.a5 4)]⟩)]) (fun x=>rt52 x.a0 x.a1 x.a2 x.a3 x.a4 x.a5) en52 (fun x=>T52  x.a0 x.a1 x.a2 x.a3 x.a4 x.a5) (fun x=>rfl) dec52 alt52 hd52 ha52
structure R87 where
  r0:Bool
structure A87 where
  a0:Int
def rt87 (a0:Int):RT R87 :=
  .br (F42_ok a0 (0:Int) (1000000:Int)) (.leaf ⟨(F42_0 a0 (0:Int) (1000000:Int))⟩) (.no)
def en87 (r:R87):Value:=(.bool r.r0)
theorem T87  (a0:Int):evC Try.prog (Ans.c p42) 60 (.call 87 ⟨[(.int .i64 a0)]⟩ ⟨[],0,[]⟩) (frzK [0])=(rt87 a0).out (fun r=>.ret (en87 r) ⟨[],0,[]⟩):=by kernel_rfl
def F87 (a0:Int):Option R87:=(rt87 a0).val
section
variable (a0:Int)
def F87_ok:Bool:=(F87 a0).isSome
def F87_0:Bool:=match F87 a0 with | some r=>r.r0 | none=>false
end
def dec87:Task→Option (A87×Hp)
  | .call g ⟨[(.int .i64 a0)]⟩ h=>(match Nat.beq g 87 with | true=>some (⟨a0⟩,h) | false=>none)
  | _=>none
def alt87 (x:A87)(h:Hp):AT:=.br (F87_ok x.a0) (.leaf (.ret (.bool (F87_0 x.a0)) h)) .no
def p87:Ans:=fnAns dec87 alt87
theorem ha87:∀(x:A87) (h:Hp)(o:Out),(alt87 x h).out=some o→∃r,(rt87 x.a0).val=some r∧o=.ret (en87 r) h:=by
  intro x h o e
  unfold alt87 at e
  simp only [AT.out]at e
  obtain ⟨g,e⟩:=cond_some e
  unfold F87_ok at g
  obtain ⟨r,hF⟩:=Option.isSome_iff_exists.1 g
  have hv:F87 x.a0=(rt87 x.a0).val:=by delta F87;exact rfl
  refine ⟨r,hv.symm.trans hF,?_⟩
  simp only [Option.some.injEq]at e
  rw [← e]
  have k0:F87_0 x.a0=r.r0:=by
    show (match F87 x.a0 with | some r=>r.r0 | none=>false)=r.r0
    rw [hF]
  rw [k0]<;>rfl
theorem hd87:∀(t:Task) (x:A87)(h:Hp),dec87 t=some (x,h)→t=.call 87 ⟨[(.int .i64 x.a0)]⟩ h:=by
  intro t x h e
  unfold dec87 at e
  split at e
  case h_2=>cases e
  split at e
  case h_2=>cases e
  rename_i hg
  simp only [Option.some.injEq,Prod.mk.injEq]at e
  obtain ⟨rfl,rfl⟩:=e
  rw [Nat.eq_of_beq_eq_true hg]
theorem known87:Known Try.prog p87:=by
  exact Known.fn noNG mixed known42 (n:=60) (zs:=[0]) 87 (fun x:A87=>[(.int .i64 x.a0)]) (fun x=>rt87 x.a0) en87 (fun x=>T87  x.a0) (fun x=>rfl) dec87 alt87 hd87 ha87
structure R89 where
  r0:Bool
structure A89 where
  a0:Int
def rt89 (a0:Int):RT R89 :=
  .br (F42_ok a0 (0:Int) (65535:Int)) (.leaf ⟨(F42_0 a0 (0:Int) (65535:Int))⟩) (.no)
def en89 (r:R89):Value:=(.bool r.r0)
theorem T89  (a0:Int):evC Try.prog (Ans.c p42) 60 (.call 89 ⟨[(.int .i64 a0)]⟩ ⟨[],0,[]⟩) (frzK [0])=(rt89 a0).out (fun r=>.ret (en89 r) ⟨[],0,[]⟩):=by kernel_rfl
def F89 (a0:Int):Option R89:=(rt89 a0).val
section
variable (a0:Int)
def F89_ok:Bool:=(F89 a0).isSome
def F89_0:Bool:=match F89 a0 with | some r=>r.r0 | none=>false
end
def dec89:Task→Option (A89×Hp)
  | .call g ⟨[(.int .i64 a0)]⟩ h=>(match Nat.beq g 89 with | true=>some (⟨a0⟩,h) | false=>none)
  | _=>none
def alt89 (x:A89)(h:Hp):AT:=.br (F89_ok x.a0) (.leaf (.ret (.bool (F89_0 x.a0)) h)) .no
def p89:Ans:=fnAns dec89 alt89
theorem ha89:∀(x:A89) (h:Hp)(o:Out),(alt89 x h).out=some o→∃r,(rt89 x.a0).val=some r∧o=.ret (en89 r) h:=by
  intro x h o e
  unfold alt89 at e
  simp only [AT.out]at e
  obtain ⟨g,e⟩:=cond_some e
  unfold F89_ok at g
  obtain ⟨r,hF⟩:=Option.isSome_iff_exists.1 g
  have hv:F89 x.a0=(rt89 x.a0).val:=by delta F89;exact rfl
  refine ⟨r,hv.symm.trans hF,?_⟩
  simp only [Option.some.injEq]at e
  rw [← e]
  have k0:F89_0 x.a0=r.r0:=by
    show (match F89 x.a0 with | some r=>r.r0 | none=>false)=r.r0
    rw [hF]
  rw [k0]<;>rfl
theorem hd89:∀(t:Task) (x:A89)(h:Hp),dec89 t=some (x,h)→t=.call 89 ⟨[(.int .i64 x.a0)]⟩ h:=by
  intro t x h e
  unfold dec89 at e
  split at e
  case h_2=>cases e
  split at e
  case h_2=>cases e
  rename_i hg
  simp only [Option.some.injEq,Prod.mk.injEq]at e
  obtain ⟨rfl,rfl⟩:=e
  rw [Nat.eq_of_beq_eq_true hg]
theorem known89:Known Try.prog p89:=by
  exact Known.fn noNG mixed known42 (n:=60) (zs:=[0]) 89 (fun x:A89=>[(.int .i64 x.a0)]) (fun x=>rt89 x.a0) en89 (fun x=>T89  x.a0) (fun x=>rfl) dec89 alt89 hd89 ha89
structure X59_88x0 where
  hb:Nat
  hw:List Nat
  v0:Array Value
  v1:Nat
  v2:Nat
  v3:Int
  v4:Int
  v5:ByteArray
  v6:Int
  v7:Int
  v8:Array Value
  v9:Nat
  v10:Nat
inductive D59_88x0 where
  | k0 (d0:Bool) (d1:ByteArray) (d2:Int) (d3:Int) (d4:Array Value) (d5:Nat) (d6:Nat)
  | k1 (d0:ByteArray) (d1:Int) (d2:Int) (d3:Array Value) (d4:Nat) (d5:Nat)
def Lp59_88x0:LoopS X59_88x0 D59_88x0 where
  c:=(theLoop Try.prog 88 0)
  N:=18
  M:=1
  S:=[1,7,8,9]
  Bs:=[]
  q:=none
  sz:=0
  z:=0
  own:=fun x=>none
  sl:=fun x=>[(.func (.func 89) ⟨[]⟩ ⟨[]⟩),(lstV x.v0 x.v1 x.v2 1),(.int .i64 x.v3),(.int .i64 x.v4)]
  hp:=fun x w=>[.cells ⟨[(.string x.v5),(.int .i64 x.v6),(.int .i64 x.v7),(lstV x.v8 x.v9 x.v10 4)]⟩ false]
  ex:=fun d=>match d with | .k0 ..=>.ret | .k1 ..=>.exit 0
  pick:=fun e=>match e with | .ret=>[4] | .exit 0=>[] | _=>[]
  dv:=fun d=>match d with | .k0 d0 d1 d2 d3 d4 d5 d6=>[(.bool d0)] | .k1 d0 d1 d2 d3 d4 d5=>[]
  dh:=fun d=>match d with | .k0 d0 d1 d2 d3 d4 d5 d6=>[.cells ⟨[(.string d1),(.int .i64 d2),(.int .i64 d3),(lstV d4 d5 d6 4)]⟩ false] | .k1 d0 d1 d2 d3 d4 d5=>[.cells ⟨[(.string d0),(.int .i64 d1),(.int .i64 d2),(lstV d3 d4 d5 4)]⟩ false]
theorem ok59_88x0:Lp59_88x0.OkS:=⟨fun x=>rfl,fun x=>rfl,fun x w=>rfl,fun x=>(fun _=>rfl),fun x w=>rfl,fun x w=>rfl,(fun q j h=>by cases h),fun d=>by cases d<;>rfl,fun d=>by cases d<;>rfl,fun d=>match d with | .k0 d0 d1 d2 d3 d4 d5 d6=>(fun _=>rfl) | .k1 d0 d1 d2 d3 d4 d5=>(fun _=>rfl),fun d=>by cases d<;>(intro h;cases h),fun d=>by cases d<;>rfl,fun d=>by cases d<;>rfl,by decide,by decide⟩
def rd59_88x0 (x:X59_88x0):RT (Sum X59_88x0 D59_88x0):=match x with
  | ⟨hb,hw,v0,v1,v2,v3,v4,v5,v6,v7,v8,v9,v10⟩ =>
     .br (decide (v4<v3)) (.br (and (decide ((0:Int)≤v4)) (decide (v4<(Int.ofNat v2)))) (.br (isInt .i64 v0 (v1+((Int.toNat v4)*1))) (.br (F89_ok (getInt v0 (v1+((Int.toNat v4)*1)))) (.br (not (F89_0 (getInt v0 (v1+((Int.toNat v4)*1))))) (.leaf (.inr (.k0 (false) (v5) (v6) (v7) (v8) (v9) (v10)))) (.leaf (.inl ⟨hb,hw,v0,v1,v2,v3,(IntKind.wrap .i64 (v4+(1:Int))),v5,v6,v7,v8,v9,v10⟩))) (.no)) (.no)) (.no)) (.leaf (.inr (.k1 (v5) (v6) (v7) (v8) (v9) (v10))))
theorem T59_88x0n  (y:List Value) (hb:Nat) (hw:List Nat) (v0:Array Value) (v1:Nat) (v2:Nat) (v3:Int) (v4:Int) (v5:ByteArray) (v6:Int) (v7:Int) (v8:Array Value) (v9:Nat) (v10:Nat):evC Try.prog (Ans.c (p15.or (p87.or p89))) 60 (.code none (theLoop Try.prog 88 0) ⟨sets (junkF 18 y) [(1,(.func (.func 89) ⟨[]⟩ ⟨[]⟩)),(7,(lstV v0 v1 v2 1)),(8,(.int .i64 v3)),(9,(.int .i64 v4))],[],⟨[.cells ⟨[(.string v5),(.int .i64 v6),(.int .i64 v7),(lstV v8 v9 v10 4)]⟩ false],0,[]⟩⟩) (kS 18 1 [1,7,8,9] Lp59_88x0.pick [] 0 none)=(rd59_88x0 ⟨hb,hw,v0,v1,v2,v3,v4,v5,v6,v7,v8,v9,v10⟩).out Lp59_88x0.encS:=by kernel_rfl
theorem T59_88x0  (x:X59_88x0) (y:List Value):evC Try.prog (Ans.c (p15.or (p87.or p89))) 60 (Lp59_88x0.headS x y) (kS Lp59_88x0.N Lp59_88x0.M Lp59_88x0.S Lp59_88x0.pick Lp59_88x0.Bs Lp59_88x0.z Lp59_88x0.q)=(rd59_88x0 x).out Lp59_88x0.encS:=by
  obtain ⟨hb,hw,v0,v1,v2,v3,v4,v5,v6,v7,v8,v9,v10⟩:=x
  exact T59_88x0n  y hb hw v0 v1 v2 v3 v4 v5 v6 v7 v8 v9 v10
def L59_88x0 (x:X59_88x0):Option D59_88x0:=loopR rd59_88x0 x
def L59_88x0_k0 (x:X59_88x0):Bool:=match L59_88x0 x with | some (.k0 ..)=>true | _=>false
def L59_88x0_k0_0 (x:X59_88x0):Bool:=match L59_88x0 x with | some (.k0 d _ _ _ _ _ _)=>d | _=>false
def L59_88x0_k0_1 (x:X59_88x0):ByteArray:=match L59_88x0 x with | some (.k0 _ d _ _ _ _ _)=>d | _=>ByteArray.empty
def L59_88x0_k0_2 (x:X59_88x0):Int:=match L59_88x0 x with | some (.k0 _ _ d _ _ _ _)=>d | _=>0
def L59_88x0_k0_3 (x:X59_88x0):Int:=match L59_88x0 x with | some (.k0 _ _ _ d _ _ _)=>d | _=>0
def L59_88x0_k0_4 (x:X59_88x0):Array Value:=match L59_88x0 x with | some (.k0 _ _ _ _ d _ _)=>d | _=>#[]
def L59_88x0_k0_5 (x:X59_88x0):Nat:=match L59_88x0 x with | some (.k0 _ _ _ _ _ d _)=>d | _=>0
def L59_88x0_k0_6 (x:X59_88x0):Nat:=match L59_88x0 x with | some (.k0 _ _ _ _ _ _ d)=>d | _=>0
def L59_88x0_k1 (x:X59_88x0):Bool:=match L59_88x0 x with | some (.k1 ..)=>true | _=>false
def L59_88x0_k1_0 (x:X59_88x0):ByteArray:=match L59_88x0 x with | some (.k1 d _ _ _ _ _)=>d | _=>ByteArray.empty
def L59_88x0_k1_1 (x:X59_88x0):Int:=match L59_88x0 x with | some (.k1 _ d _ _ _ _)=>d | _=>0
def L59_88x0_k1_2 (x:X59_88x0):Int:=match L59_88x0 x with | some (.k1 _ _ d _ _ _)=>d | _=>0
def L59_88x0_k1_3 (x:X59_88x0):Array Value:=match L59_88x0 x with | some (.k1 _ _ _ d _ _)=>d | _=>#[]
def L59_88x0_k1_4 (x:X59_88x0):Nat:=match L59_88x0 x with | some (.k1 _ _ _ _ d _)=>d | _=>0
def L59_88x0_k1_5 (x:X59_88x0):Nat:=match L59_88x0 x with | some (.k1 _ _ _ _ _ d)=>d | _=>0
def dec59_88x0:Task→Option (Code×X59_88x0)
  | .code none (.loop code) ⟨t,[],⟨[b0],hb,hw⟩⟩ =>
    (match Nat.beq (firstReg code) 2,lenIs t 18 with
    | true,true=>((dFn 89 (lget t 1)).bind fun q0=>match q0.1,q0.2 with | [],[]=>((dLs 1 (lget t 7)).bind fun q1=>(fun v0 v1 v2=>(dI .i64 (lget t 8)).bind fun v3=>(dI .i64 (lget t 9)).bind fun v4=>(dCe b0).bind fun l4=>match l4 with | [y4_0,y4_1,y4_2,y4_3]=>((dSt y4_0).bind fun v5=>(dI .i64 y4_1).bind fun v6=>(dI .i64 y4_2).bind fun v7=>(dLs 4 y4_3).bind fun q8=>(fun v8 v9 v10=>some (code,⟨hb,hw,v0,v1,v2,v3,v4,v5,v6,v7,v8,v9,v10⟩)) q8.1 q8.2.1 q8.2.2) | _=>none) q1.1 q1.2.1 q1.2.2) | _,_=>none)
    | _,_=>none)
  | _=>none
def alt59_88x0 (x:X59_88x0)(j:List Value):AT:=.br (L59_88x0_k0 x) (loopEnd 18 (.ret) [(4,(.bool (L59_88x0_k0_0 x)))] ⟨[.cells ⟨[(.string (L59_88x0_k0_1 x)),(.int .i64 (L59_88x0_k0_2 x)),(.int .i64 (L59_88x0_k0_3 x)),(lstV (L59_88x0_k0_4 x) (L59_88x0_k0_5 x) (L59_88x0_k0_6 x) 4)]⟩ false],x.hb,0::x.hw⟩ j) (.br (L59_88x0_k1 x) (loopEnd 18 (.exit 0) [] ⟨[.cells ⟨[(.string (L59_88x0_k1_0 x)),(.int .i64 (L59_88x0_k1_1 x)),(.int .i64 (L59_88x0_k1_2 x)),(lstV (L59_88x0_k1_3 x) (L59_88x0_k1_4 x) (L59_88x0_k1_5 x) 4)]⟩ false],x.hb,0::x.hw⟩ j) (.no))
def la59_88x0 (J:Task→List Value):Ans:=loopAns Lp59_88x0.c dec59_88x0 alt59_88x0 J
theorem ha59_88x0:∀(x:X59_88x0) (j:List Value)(o:Out),(alt59_88x0 x j).out=some o→Lp59_88x0.good x∧∃d,loopR rd59_88x0 x=some d∧o=Lp59_88x0.tailB x d j x.hb x.hw:=by
  intro x j o h
  simp only [alt59_88x0,AT.out]at h
  refine ⟨⟨rfl,fun a l e=>(by cases e)⟩,?_⟩
  cases hL:L59_88x0 x with
  | none=>simp only [L59_88x0_k0,L59_88x0_k0_0,L59_88x0_k0_1,L59_88x0_k0_2,L59_88x0_k0_3,L59_88x0_k0_4,L59_88x0_k0_5,L59_88x0_k0_6,L59_88x0_k1,L59_88x0_k1_0,L59_88x0_k1_1,L59_88x0_k1_2,L59_88x0_k1_3,L59_88x0_k1_4,L59_88x0_k1_5,hL,AT.out,cond_false]at h;cases h
  | some d =>
    refine ⟨d,hL,?_⟩
    cases d<;>(simp only [L59_88x0_k0,L59_88x0_k0_0,L59_88x0_k0_1,L59_88x0_k0_2,L59_88x0_k0_3,L59_88x0_k0_4,L59_88x0_k0_5,L59_88x0_k0_6,L59_88x0_k1,L59_88x0_k1_0,L59_88x0_k1_1,L59_88x0_k1_2,L59_88x0_k1_3,L59_88x0_k1_4,L59_88x0_k1_5,hL,AT.out,loopEnd,cond_true,cond_false,Option.some.injEq]at h;rw [← h];rfl)
theorem hd59_88x0:∀(t:Task) (c:Code)(x:X59_88x0),dec59_88x0 t=some (c,x)→c=Lp59_88x0.c→∃T H',t=.code none (.loop Lp59_88x0.c) ⟨T,[],⟨H',x.hb,x.hw⟩⟩∧Forgets H' (Lp59_88x0.H x)∧T.length=Lp59_88x0.N∧∀kv∈Lp59_88x0.S.zip (Lp59_88x0.sl x),lget T kv.1=kv.2:=by
  intro t c x h hc
  unfold dec59_88x0 at h
  split at h
  · split at h
    case h_2=>cases h
    rename_i hreg hlen
    have e2:=Option.bind_eq_some_iff.1 h
    clear h
    obtain ⟨⟨_,_⟩,hh,h⟩:=e2
    dsimp only at hh h
    have hh:=dFn_eq hh
    split at h
    case h_2=>cases h
    have e2:=Option.bind_eq_some_iff.1 h
    clear h
    obtain ⟨_,hh,h⟩:=e2
    have hh:=dLs_eq hh
    have e2:=Option.bind_eq_some_iff.1 h
    clear h
    obtain ⟨_,hh,h⟩:=e2
    have hh:=dI_eq hh
    have e2:=Option.bind_eq_some_iff.1 h
    clear h
    obtain ⟨_,hh,h⟩:=e2
    have hh:=dI_eq hh
    have e2:=Option.bind_eq_some_iff.1 h
    clear h
    obtain ⟨_,hh,h⟩:=e2
    obtain rfl:=dCe_eq hh
    clear hh
    split at h
    case h_2=>cases h
    have e2:=Option.bind_eq_some_iff.1 h
    clear h
    obtain ⟨_,hh,h⟩:=e2
    obtain rfl:=dSt_eq hh
    clear hh
    have e2:=Option.bind_eq_some_iff.1 h
    clear h
    obtain ⟨_,hh,h⟩:=e2
    obtain rfl:=dI_eq hh
    clear hh
    have e2:=Option.bind_eq_some_iff.1 h
    clear h
    obtain ⟨_,hh,h⟩:=e2
    obtain rfl:=dI_eq hh
    clear hh
    have e2:=Option.bind_eq_some_iff.1 h
    clear h
    obtain ⟨_,hh,h⟩:=e2
    obtain rfl:=dLs_eq hh
    clear hh
    simp only [Option.some.injEq,Prod.mk.injEq]at h
    obtain ⟨rfl,rfl⟩:=h
    subst hc
    refine ⟨_,_,rfl,(Forgets.refl _),lenIs_eq _ _ hlen,?_⟩
    intro kv hk
    simp only [Lp59_88x0,List.zip_cons_cons,List.zip_nil_right,List.mem_cons,List.not_mem_nil,or_false]at hk
    rcases hk with rfl | rfl | rfl | rfl<;>assumption
  · cases h
theorem kl59_88x0:∃J,Known Try.prog (la59_88x0 J):=by
  exact LoopS.knownB noNG mixed ok59_88x0 (Known.or known15 (Known.or known87 known89)) (n:=60) (rd:=rd59_88x0) (fun x j _=>T59_88x0  x j) (fun x=>x.hb) (fun x=>x.hw) dec59_88x0 alt59_88x0 hd59_88x0 ha59_88x0
structure R59 where
  r0:Int
structure A59 where
  a0:ByteArray
  a1:Int
  a2:Int
  a3:Array Value
  a4:Nat
  a5:Nat
  a6:Int
  a7:Array Value
  a8:Nat
  a9:Nat
  a10:Int
def rt59 (a0:ByteArray)(a1:Int)(a2:Int)(a3:Array Value)(a4:Nat)(a5:Nat)(a6:Int)(a7:Array Value)(a8:Nat)(a9:Nat)(a10:Int):RT R59 :=
  .br (F15_ok a0 a1 a2 (a3) a4 a5) (.br (not (decide ((F15_2 a0 a1 a2 (a3) a4 a5)=(0:Int)))) (.leaf ⟨(F15_2 a0 a1 a2 (a3) a4 a5)⟩) (.br (F87_ok a6) (.br (not (F87_0 a6)) (.leaf ⟨(7:Int)⟩) (.br (not (decide ((Int.ofNat a9)=a10))) (.leaf ⟨(2:Int)⟩)
      (.sw (eqCode (Lp59_88x0.c) (Lp59_88x0.c)) true (by simp only [eqCode_self,arrEq_self]) (.br (L59_88x0_k0 (X59_88x0.mk 1 [] (a7) a8 a9 (Int.ofNat a9) (0:Int) a0 a1 a2 (a3) a4 a5)) (.br (not (L59_88x0_k0_0 (X59_88x0.mk 1 [] (a7) a8 a9 (Int.ofNat a9) (0:Int) a0 a1 a2 (a3) a4 a5))) (.leaf ⟨(7:Int)⟩) (.leaf ⟨(0:Int)⟩)) (.br (L59_88x0_k1 (X59_88x0.mk 1 [] (a7) a8 a9 (Int.ofNat a9) (0:Int) a0 a1 a2 (a3) a4 a5)) (.leaf ⟨(0:Int)⟩) (.no))) (.no)))) (.no))) (.no)
def en59 (r:R59):Value:=(.int .i64 r.r0)
theorem T59 (J88x0:Task→List Value)(a0:ByteArray)(a1:Int)(a2:Int)(a3:Array Value)(a4:Nat)(a5:Nat)(a6:Int)(a7:Array Value)(a8:Nat)(a9:Nat)(a10:Int):evC Try.prog (Ans.c (p15.or (p87.or (p89.or (la59_88x0 J88x0))))) 60 (.call 59 ⟨[(.agg ⟨[(.string a0),(.int .i64 a1),(.int .i64 a2),(lstV a3 a4 a5 4)]⟩),(.int .i64 a6),(lstV a7 a8 a9 1),(.int .i64 a10)]⟩ ⟨[],0,[]⟩) (frzK [0])=(rt59 a0 a1 a2 a3 a4 a5 a6 a7 a8 a9 a10).out (fun r=>.ret (en59 r) ⟨[],0,[]⟩):=by kernel_rfl
def F59 (a0:ByteArray)(a1:Int)(a2:Int)(a3:Array Value)(a4:Nat)(a5:Nat)(a6:Int)(a7:Array Value)(a8:Nat)(a9:Nat)(a10:Int):Option R59:=(rt59 a0 a1 a2 a3 a4 a5 a6 a7 a8 a9 a10).val
section
variable (a0:ByteArray) (a1:Int) (a2:Int) (a3:Array Value) (a4:Nat) (a5:Nat) (a6:Int) (a7:Array Value) (a8:Nat) (a9:Nat) (a10:Int)
def F59_ok:Bool:=(F59 a0 a1 a2 a3 a4 a5 a6 a7 a8 a9 a10).isSome
def F59_0:Int:=match F59 a0 a1 a2 a3 a4 a5 a6 a7 a8 a9 a10 with | some r=>r.r0 | none=>0
end
def dec59:Task→Option (A59×Hp)
  | .call g ⟨[(.agg ⟨[(.string a0),(.int .i64 a1),(.int .i64 a2),(.func (.via 0 ⟨[]⟩ 0 true) a3 ⟨[.slice (some ⟨0,a4,none⟩) a5 4]⟩)]⟩),(.int .i64 a6),(.func (.via 0 ⟨[]⟩ 0 true) a7 ⟨[.slice (some ⟨0,a8,none⟩) a9 1]⟩),(.int .i64 a10)]⟩ h=>(match Nat.beq g 59 with | true=>some (⟨a0,a1,a2,a3,a4,a5,a6,a7,a8,a9,a10⟩,h) | false=>none)
  | _=>none
def alt59 (x:A59)(h:Hp):AT:=.br (F59_ok x.a0 x.a1 x.a2 x.a3 x.a4 x.a5 x.a6 x.a7 x.a8 x.a9 x.a10) (.leaf (.ret (.int .i64 (F59_0 x.a0 x.a1 x.a2 x.a3 x.a4 x.a5 x.a6 x.a7 x.a8 x.a9 x.a10)) h)) .no
def p59:Ans:=fnAns dec59 alt59
theorem ha59:∀(x:A59) (h:Hp)(o:Out),(alt59 x h).out=some o→∃r,(rt59 x.a0 x.a1 x.a2 x.a3 x.a4 x.a5 x.a6 x.a7 x.a8 x.a9 x.a10).val=some r∧o=.ret (en59 r) h:=by
  intro x h o e
  unfold alt59 at e
  simp only [AT.out]at e
  obtain ⟨g,e⟩:=cond_some e
  unfold F59_ok at g
  obtain ⟨r,hF⟩:=Option.isSome_iff_exists.1 g
  have hv:F59 x.a0 x.a1 x.a2 x.a3 x.a4 x.a5 x.a6 x.a7 x.a8 x.a9 x.a10=(rt59 x.a0 x.a1 x.a2 x.a3 x.a4 x.a5 x.a6 x.a7 x.a8 x.a9 x.a10).val:=by delta F59;exact rfl
  refine ⟨r,hv.symm.trans hF,?_⟩
  simp only [Option.some.injEq]at e
  rw [← e]
  have k0:F59_0 x.a0 x.a1 x.a2 x.a3 x.a4 x.a5 x.a6 x.a7 x.a8 x.a9 x.a10=r.r0:=by
    show (match F59 x.a0 x.a1 x.a2 x.a3 x.a4 x.a5 x.a6 x.a7 x.a8 x.a9 x.a10 with | some r=>r.r0 | none=>0)=r.r0
    rw [hF]
  rw [k0]<;>rfl
theorem hd59:∀(t:Task) (x:A59)(h:Hp),dec59 t=some (x,h)→t=.call 59 ⟨[(.agg ⟨[(.string x.a0),(.int .i64 x.a1),(.int .i64 x.a2),(lstV x.a3 x.a4 x.a5 4)]⟩),(.int .i64 x.a6),(lstV x.a7 x.a8 x.a9 1),(.int .i64 x.a10)]⟩ h:=by
  intro t x h e
  unfold dec59 at e
  split at e
  case h_2=>cases e
  split at e
  case h_2=>cases e
  rename_i hg
  simp only [Option.some.injEq,Prod.mk.injEq]at e
  obtain ⟨rfl,rfl⟩:=e
  rw [Nat.eq_of_beq_eq_true hg]
theorem known59:Known Try.prog p59:=by
  obtain ⟨J88x0,hJ88x0⟩:=kl59_88x0
  exact Known.fn noNG mixed (Known.or known15 (Known.or known87 (Known.or known89 hJ88x0))) (n:=60) (zs:=[0]) 59 (fun x:A59=>[(.agg ⟨[(.string x.a0),(.int .i64 x.a1),(.int .i64 x.a2),(lstV x.a3 x.a4 x.a5 4)]⟩),(.int .i64 x.a6),(lstV x.a7 x.a8 x.a9 1),(.int .i64 x.a10)]) (fun x=>rt59 x.a0 x.a1 x.a2 x.a3 x.a4 x.a5 x.a6 x.a7 x.a8 x.a9 x.a10) en59 (fun x=>T59 J88x0 x.a0 x.a1 x.a2 x.a3 x.a4 x.a5 x.a6 x.a7 x.a8 x.a9 x.a10) (fun x=>rfl) dec59 alt59 hd59 ha59
structure R61 where
  r0:Bool
structure A61 where
  a0:Int
def rt61 (a0:Int):RT R61 :=
  .br (F45_ok a0 (0:Int) (1000000:Int)) (.leaf ⟨(F45_0 a0 (0:Int) (1000000:Int))⟩) (.no)
def en61 (r:R61):Value:=(.bool r.r0)
theorem T61  (a0:Int):evC Try.prog (Ans.c p45) 60 (.call 61 ⟨[(.int .i64 a0)]⟩ ⟨[],0,[]⟩) (frzK [0])=(rt61 a0).out (fun r=>.ret (en61 r) ⟨[],0,[]⟩):=by kernel_rfl
def F61 (a0:Int):Option R61:=(rt61 a0).val
section
variable (a0:Int)
def F61_ok:Bool:=(F61 a0).isSome
def F61_0:Bool:=match F61 a0 with | some r=>r.r0 | none=>false
end
def dec61:Task→Option (A61×Hp)
  | .call g ⟨[(.int .i64 a0)]⟩ h=>(match Nat.beq g 61 with | true=>some (⟨a0⟩,h) | false=>none)
  | _=>none
def alt61 (x:A61)(h:Hp):AT:=.br (F61_ok x.a0) (.leaf (.ret (.bool (F61_0 x.a0)) h)) .no
def p61:Ans:=fnAns dec61 alt61
theorem ha61:∀(x:A61) (h:Hp)(o:Out),(alt61 x h).out=some o→∃r,(rt61 x.a0).val=some r∧o=.ret (en61 r) h:=by
  intro x h o e
  unfold alt61 at e
  simp only [AT.out]at e
  obtain ⟨g,e⟩:=cond_some e
  unfold F61_ok at g
  obtain ⟨r,hF⟩:=Option.isSome_iff_exists.1 g
  have hv:F61 x.a0=(rt61 x.a0).val:=by delta F61;exact rfl
  refine ⟨r,hv.symm.trans hF,?_⟩
  simp only [Option.some.injEq]at e
  rw [← e]
  have k0:F61_0 x.a0=r.r0:=by
    show (match F61 x.a0 with | some r=>r.r0 | none=>false)=r.r0
    rw [hF]
  rw [k0]<;>rfl
theorem hd61:∀(t:Task) (x:A61)(h:Hp),dec61 t=some (x,h)→t=.call 61 ⟨[(.int .i64 x.a0)]⟩ h:=by
  intro t x h e
  unfold dec61 at e
  split at e
  case h_2=>cases e
  split at e
  case h_2=>cases e
  rename_i hg
  simp only [Option.some.injEq,Prod.mk.injEq]at e
  obtain ⟨rfl,rfl⟩:=e
  rw [Nat.eq_of_beq_eq_true hg]
theorem known61:Known Try.prog p61:=by
  exact Known.fn noNG mixed known45 (n:=60) (zs:=[0]) 61 (fun x:A61=>[(.int .i64 x.a0)]) (fun x=>rt61 x.a0) en61 (fun x=>T61  x.a0) (fun x=>rfl) dec61 alt61 hd61 ha61
structure R62 where
  r0:Bool
structure A62 where
  a0:Int
def rt62 (a0:Int):RT R62 :=
  .br (F45_ok a0 (0:Int) (65535:Int)) (.leaf ⟨(F45_0 a0 (0:Int) (65535:Int))⟩) (.no)
def en62 (r:R62):Value:=(.bool r.r0)
theorem T62  (a0:Int):evC Try.prog (Ans.c p45) 60 (.call 62 ⟨[(.int .i64 a0)]⟩ ⟨[],0,[]⟩) (frzK [0])=(rt62 a0).out (fun r=>.ret (en62 r) ⟨[],0,[]⟩):=by kernel_rfl
def F62 (a0:Int):Option R62:=(rt62 a0).val
section
variable (a0:Int)
def F62_ok:Bool:=(F62 a0).isSome
def F62_0:Bool:=match F62 a0 with | some r=>r.r0 | none=>false
end
def dec62:Task→Option (A62×Hp)
  | .call g ⟨[(.int .i64 a0)]⟩ h=>(match Nat.beq g 62 with | true=>some (⟨a0⟩,h) | false=>none)
  | _=>none
def alt62 (x:A62)(h:Hp):AT:=.br (F62_ok x.a0) (.leaf (.ret (.bool (F62_0 x.a0)) h)) .no
def p62:Ans:=fnAns dec62 alt62
theorem ha62:∀(x:A62) (h:Hp)(o:Out),(alt62 x h).out=some o→∃r,(rt62 x.a0).val=some r∧o=.ret (en62 r) h:=by
  intro x h o e
  unfold alt62 at e
  simp only [AT.out]at e
  obtain ⟨g,e⟩:=cond_some e
  unfold F62_ok at g
  obtain ⟨r,hF⟩:=Option.isSome_iff_exists.1 g
  have hv:F62 x.a0=(rt62 x.a0).val:=by delta F62;exact rfl
  refine ⟨r,hv.symm.trans hF,?_⟩
  simp only [Option.some.injEq]at e
  rw [← e]
  have k0:F62_0 x.a0=r.r0:=by
    show (match F62 x.a0 with | some r=>r.r0 | none=>false)=r.r0
    rw [hF]
  rw [k0]<;>rfl
theorem hd62:∀(t:Task) (x:A62)(h:Hp),dec62 t=some (x,h)→t=.call 62 ⟨[(.int .i64 x.a0)]⟩ h:=by
  intro t x h e
  unfold dec62 at e
  split at e
  case h_2=>cases e
  split at e
  case h_2=>cases e
  rename_i hg
  simp only [Option.some.injEq,Prod.mk.injEq]at e
  obtain ⟨rfl,rfl⟩:=e
  rw [Nat.eq_of_beq_eq_true hg]
theorem known62:Known Try.prog p62:=by
  exact Known.fn noNG mixed known45 (n:=60) (zs:=[0]) 62 (fun x:A62=>[(.int .i64 x.a0)]) (fun x=>rt62 x.a0) en62 (fun x=>T62  x.a0) (fun x=>rfl) dec62 alt62 hd62 ha62
structure R63 where
  r0:Bool
structure A63 where
  a0:ByteArray
  a1:Int
  a2:Int
  a3:Int
  a4:Int
def rt63 (a0:ByteArray)(a1:Int)(a2:Int)(a3:Int)(a4:Int):RT R63 :=
  .br (not (decide (a2=(0:Int)))) (.leaf ⟨(decide ((Int.tmod a4 a2)=a3))⟩) (.no)
def en63 (r:R63):Value:=(.bool r.r0)
theorem T63  (a0:ByteArray) (a1:Int) (a2:Int) (a3:Int) (a4:Int):evC Try.prog (Ans.c (fun _=>none:Ans)) 60 (.call 63 ⟨[(.agg ⟨[(.string a0),(.int .i64 a1),(.int .i64 a2),(.int .i64 a3)]⟩),(.int .i64 a4)]⟩ ⟨[],0,[]⟩) (frzK [0])=(rt63 a0 a1 a2 a3 a4).out (fun r=>.ret (en63 r) ⟨[],0,[]⟩):=by kernel_rfl
def F63 (a0:ByteArray)(a1:Int)(a2:Int)(a3:Int)(a4:Int):Option R63:=(rt63 a0 a1 a2 a3 a4).val
section
variable (a0:ByteArray) (a1:Int) (a2:Int) (a3:Int) (a4:Int)
def F63_ok:Bool:=(F63 a0 a1 a2 a3 a4).isSome
def F63_0:Bool:=match F63 a0 a1 a2 a3 a4 with | some r=>r.r0 | none=>false
end
def dec63:Task→Option (A63×Hp)
  | .call g ⟨[(.agg ⟨[(.string a0),(.int .i64 a1),(.int .i64 a2),(.int .i64 a3)]⟩),(.int .i64 a4)]⟩ h=>(match Nat.beq g 63 with | true=>some (⟨a0,a1,a2,a3,a4⟩,h) | false=>none)
  | _=>none
def alt63 (x:A63)(h:Hp):AT:=.br (F63_ok x.a0 x.a1 x.a2 x.a3 x.a4) (.leaf (.ret (.bool (F63_0 x.a0 x.a1 x.a2 x.a3 x.a4)) h)) .no
def p63:Ans:=fnAns dec63 alt63
theorem ha63:∀(x:A63) (h:Hp)(o:Out),(alt63 x h).out=some o→∃r,(rt63 x.a0 x.a1 x.a2 x.a3 x.a4).val=some r∧o=.ret (en63 r) h:=by
  intro x h o e
  unfold alt63 at e
  simp only [AT.out]at e
  obtain ⟨g,e⟩:=cond_some e
  unfold F63_ok at g
  obtain ⟨r,hF⟩:=Option.isSome_iff_exists.1 g
  have hv:F63 x.a0 x.a1 x.a2 x.a3 x.a4=(rt63 x.a0 x.a1 x.a2 x.a3 x.a4).val:=by delta F63;exact rfl
  refine ⟨r,hv.symm.trans hF,?_⟩
  simp only [Option.some.injEq]at e
  rw [← e]
  have k0:F63_0 x.a0 x.a1 x.a2 x.a3 x.a4=r.r0:=by
    show (match F63 x.a0 x.a1 x.a2 x.a3 x.a4 with | some r=>r.r0 | none=>false)=r.r0
    rw [hF]
  rw [k0]<;>rfl
theorem hd63:∀(t:Task) (x:A63)(h:Hp),dec63 t=some (x,h)→t=.call 63 ⟨[(.agg ⟨[(.string x.a0),(.int .i64 x.a1),(.int .i64 x.a2),(.int .i64 x.a3)]⟩),(.int .i64 x.a4)]⟩ h:=by
  intro t x h e
  unfold dec63 at e
  split at e
  case h_2=>cases e
  split at e
  case h_2=>cases e
  rename_i hg
  simp only [Option.some.injEq,Prod.mk.injEq]at e
  obtain ⟨rfl,rfl⟩:=e
  rw [Nat.eq_of_beq_eq_true hg]
theorem known63:Known Try.prog p63:=by
  exact Known.fn noNG mixed (Known.nothing Try.prog) (n:=60) (zs:=[0]) 63 (fun x:A63=>[(.agg ⟨[(.string x.a0),(.int .i64 x.a1),(.int .i64 x.a2),(.int .i64 x.a3)]⟩),(.int .i64 x.a4)]) (fun x=>rt63 x.a0 x.a1 x.a2 x.a3 x.a4) en63 (fun x=>T63  x.a0 x.a1 x.a2 x.a3 x.a4) (fun x=>rfl) dec63 alt63 hd63 ha63
structure X23_0 where
  v0:Int
  v1:Array Value
  v2:Nat
  v3:Nat
  v4:Int
  v5:Int
  v6:ByteArray
  v7:Int
  v8:Int
  v9:Array Value
  v10:Nat
  v11:Nat
inductive D23_0 where
  | k0 (d0:Int) (d1:Array Value) (d2:Nat) (d3:Nat) (d4:Int) (d5:ByteArray) (d6:Int) (d7:Int) (d8:Array Value) (d9:Nat) (d10:Nat)
def Lp23_0:LoopOf X23_0 D23_0 where
  c:=(theLoop Try.prog 23 0)
  N:=80
  M:=1
  S:=[1,2,3,8,9]
  sl:=fun x=>[(.int .i64 x.v0),(lstV x.v1 x.v2 x.v3 1),(Value.pointer (Option.some (Addr.mk 0 0 Option.none))),(.int .i64 x.v4),(.int .i64 x.v5)]
  hp:=fun x=>[.cells ⟨[(.string x.v6),(.int .i64 x.v7),(.int .i64 x.v8),(lstV x.v9 x.v10 x.v11 4)]⟩ false]
  ex:=fun d=>match d with | .k0 ..=>.exit 0
  pick:=fun e=>match e with | .exit 0=>[1,2,3,8] | _=>[]
  dv:=fun d=>match d with | .k0 d0 d1 d2 d3 d4 d5 d6 d7 d8 d9 d10=>[(.int .i64 d0),(lstV d1 d2 d3 1),(Value.pointer (Option.some (Addr.mk 0 0 Option.none))),(.int .i64 d4)]
  dh:=fun d=>match d with | .k0 d0 d1 d2 d3 d4 d5 d6 d7 d8 d9 d10=>[.cells ⟨[(.string d5),(.int .i64 d6),(.int .i64 d7),(lstV d8 d9 d10 4)]⟩ false]
theorem ok23_0:Lp23_0.Ok:=⟨fun x=>rfl,fun x=>rfl,fun x=>rfl,fun x=>rfl,fun d=>by cases d<;>rfl,fun d=>by cases d<;>rfl,fun d=>by cases d<;>rfl,fun d=>by cases d<;>(intro h;cases h),fun d=>by cases d<;>rfl,fun d=>by cases d<;>rfl⟩
def rd23_0 (x:X23_0):RT (Sum X23_0 D23_0):=match x with
  | ⟨v0,v1,v2,v3,v4,v5,v6,v7,v8,v9,v10,v11⟩ =>
     .br (decide (v5<(Int.ofNat v3))) (.br (decide (v4=(0:Int))) (.br (and (decide ((0:Int)≤v5)) (decide (v5<(Int.ofNat v3)))) (.br (isInt .i64 v1 (v2+((Int.toNat v5)*1))) (.br (F62_ok (getInt v1 (v2+((Int.toNat v5)*1)))) (.br (not (F62_0 (getInt v1 (v2+((Int.toNat v5)*1))))) (.leaf (.inl ⟨v0,v1,v2,v3,(7:Int),(IntKind.wrap .i64 (v5+(1:Int))),v6,v7,v8,v9,v10,v11⟩)) (.leaf (.inl ⟨v0,v1,v2,v3,v4,(IntKind.wrap .i64 (v5+(1:Int))),v6,v7,v8,v9,v10,v11⟩))) (.no)) (.no)) (.no)) (.leaf (.inr (.k0 (v0) (v1) (v2) (v3) (v4) (v6) (v7) (v8) (v9) (v10) (v11))))) (.leaf (.inr (.k0 (v0) (v1) (v2) (v3) (v4) (v6) (v7) (v8) (v9) (v10) (v11))))
theorem T23_0  (y:List Value) (v0:Int) (v1:Array Value) (v2:Nat) (v3:Nat) (v4:Int) (v5:Int) (v6:ByteArray) (v7:Int) (v8:Int) (v9:Array Value) (v10:Nat) (v11:Nat):evC Try.prog (Ans.c (p52.or (p61.or (p62.or p63)))) 60 (.code none (theLoop Try.prog 23 0) ⟨sets (junkF 80 y) [(1,(.int .i64 v0)),(2,(lstV v1 v2 v3 1)),(3,(Value.pointer (Option.some (Addr.mk 0 0 Option.none)))),(8,(.int .i64 v4)),(9,(.int .i64 v5))],[],⟨[.cells ⟨[(.string v6),(.int .i64 v7),(.int .i64 v8),(lstV v9 v10 v11 4)]⟩ false],0,[]⟩⟩) (sumK 1 80 Lp23_0.pk)=(rd23_0 ⟨v0,v1,v2,v3,v4,v5,v6,v7,v8,v9,v10,v11⟩).out Lp23_0.enc:=by kernel_rfl
def L23_0 (x:X23_0):Option D23_0:=loopR rd23_0 x
section
variable (x:X23_0)
def L23_0_k0:Bool:=match L23_0 x with | some (.k0 ..)=>true | _=>false
def Qn0:Int:=match L23_0 x with | some (.k0 d _ _ _ _ _ _ _ _ _ _)=>d | _=>0
def Qn1:Array Value:=match L23_0 x with | some (.k0 _ d _ _ _ _ _ _ _ _ _)=>d | _=>#[]
def Qn2:Nat:=match L23_0 x with | some (.k0 _ _ d _ _ _ _ _ _ _ _)=>d | _=>0
def Qn3:Nat:=match L23_0 x with | some (.k0 _ _ _ d _ _ _ _ _ _ _)=>d | _=>0
def Qn4:Int:=match L23_0 x with | some (.k0 _ _ _ _ d _ _ _ _ _ _)=>d | _=>0
def Qn5:ByteArray:=match L23_0 x with | some (.k0 _ _ _ _ _ d _ _ _ _ _)=>d | _=>ByteArray.empty
def Qn6:Int:=match L23_0 x with | some (.k0 _ _ _ _ _ _ d _ _ _ _)=>d | _=>0
def Qn7:Int:=match L23_0 x with | some (.k0 _ _ _ _ _ _ _ d _ _ _)=>d | _=>0
def Qn8:Array Value:=match L23_0 x with | some (.k0 _ _ _ _ _ _ _ _ d _ _)=>d | _=>#[]
def Qn9:Nat:=match L23_0 x with | some (.k0 _ _ _ _ _ _ _ _ _ d _)=>d | _=>0
def Qn10:Nat:=match L23_0 x with | some (.k0 _ _ _ _ _ _ _ _ _ _ d)=>d | _=>0
end
def dec23_0:Task→Option (Code×X23_0)
  | .code none (.loop code) ⟨t,[],⟨[.cells ⟨[(.string v6),(.int .i64 v7),(.int .i64 v8),(.func (.via 0 ⟨[]⟩ 0 true) v9 ⟨[.slice (some ⟨0,v10,none⟩) v11 4]⟩)]⟩ false],0,[]⟩⟩ =>
    (match Nat.beq (firstReg code) 7,lenIs t 80,lget t 1,lget t 2,lget t 3,lget t 8,lget t 9 with
    | true,true,(.int .i64 v0),(.func (.via 0 ⟨[]⟩ 0 true) v1 ⟨[.slice (some ⟨0,v2,none⟩) v3 1]⟩),(Value.pointer (Option.some (Addr.mk 0 0 Option.none))),(.int .i64 v4),(.int .i64 v5)=>some (code,⟨v0,v1,v2,v3,v4,v5,v6,v7,v8,v9,v10,v11⟩)
    | _,_,_,_,_,_,_=>none)
  | _=>none
def alt23_0 (x:X23_0)(j:List Value):AT:=.br (L23_0_k0 x) (loopEnd 80 (.exit 0) [(1,(.int .i64 (Qn0 x))),(2,(lstV (Qn1 x) (Qn2 x) (Qn3 x) 1)),(3,(Value.pointer (Option.some (Addr.mk 0 0 Option.none)))),(8,(.int .i64 (Qn4 x)))] ⟨[.cells ⟨[(.string (Qn5 x)),(.int .i64 (Qn6 x)),(.int .i64 (Qn7 x)),(lstV (Qn8 x) (Qn9 x) (Qn10 x) 4)]⟩ false],0,[]⟩ j) (.no)
def la23_0 (J:Task→List Value):Ans:=loopAns Lp23_0.c dec23_0 alt23_0 J
theorem ha23_0:∀(x:X23_0) (j:List Value)(o:Out),(alt23_0 x j).out=some o→∃d,loopR rd23_0 x=some d∧o=Lp23_0.tail d j:=by
  intro x j o h
  unfold alt23_0 at h
  cases hL:L23_0 x with
  | none=>simp [L23_0_k0,Qn0,Qn1,Qn2,Qn3,Qn4,Qn5,Qn6,Qn7,Qn8,Qn9,Qn10,hL,AT.out]at h
  | some d =>
    refine ⟨d,hL,?_⟩
    cases d<;>(simp only [L23_0_k0,Qn0,Qn1,Qn2,Qn3,Qn4,Qn5,Qn6,Qn7,Qn8,Qn9,Qn10,hL,AT.out,loopEnd,cond_true,cond_false,Option.some.injEq]at h;rw [← h];rfl)
theorem hd23_0:∀(t:Task) (c:Code)(x:X23_0),dec23_0 t=some (c,x)→c=Lp23_0.c→∃T,t=.code none (.loop Lp23_0.c) ⟨T,[],⟨Lp23_0.hp x,0,[]⟩⟩∧T.length=Lp23_0.N∧∀kv∈Lp23_0.S.zip (Lp23_0.sl x),lget T kv.1=kv.2:=by
  intro t c x h hc
  unfold dec23_0 at h
  split at h
  case h_2=>cases h
  split at h
  case h_2=>cases h
  simp only [Option.some.injEq,Prod.mk.injEq]at h
  obtain ⟨rfl,rfl⟩:=h
  subst hc
  refine ⟨_,rfl,lenIs_eq _ _ (by assumption),?_⟩
  intro kv hk
  simp only [Lp23_0,List.zip_cons_cons,List.zip_nil_right,List.mem_cons,List.not_mem_nil,or_false]at hk
  rcases hk with rfl | rfl | rfl | rfl | rfl<;>assumption
theorem kl23_0:∃J,Known Try.prog (la23_0 J):=by
  exact LoopOf.known noNG mixed ok23_0 (by decide) (by decide) (Known.or known52 (Known.or known61 (Known.or known62 known63))) (n:=60) (rd:=rd23_0) (fun x j=>T23_0  j x.v0 x.v1 x.v2 x.v3 x.v4 x.v5 x.v6 x.v7 x.v8 x.v9 x.v10 x.v11) dec23_0 alt23_0 hd23_0 ha23_0
structure X23_1 where
  v0:Int
  v1:Array Value
  v2:Nat
  v3:Nat
  v4:Nat
  v5:Int
  v6:ByteArray
  v7:Int
  v8:Int
  v9:Array Value
  v10:Nat
  v11:Nat
  v12:Array Value
inductive D23_1 where
  | k0 (d0:Nat) (d1:ByteArray) (d2:Int) (d3:Int) (d4:Array Value) (d5:Nat) (d6:Nat) (d7:Array Value)
def Lp23_1:LoopS X23_1 D23_1 where
  c:=(theLoop Try.prog 23 1)
  N:=80
  M:=2
  S:=[1,2,3,10,11]
  Bs:=[1]
  q:=none
  sz:=0
  z:=0
  own:=fun x=>none
  sl:=fun x=>[(.int .i64 x.v0),(lstV x.v1 x.v2 x.v3 1),(Value.pointer (Option.some (Addr.mk 0 0 Option.none))),(.slice (some ⟨1,0,none⟩) x.v4 1),(.int .i64 x.v5)]
  hp:=fun x w=>[.cells ⟨[(.string x.v6),(.int .i64 x.v7),(.int .i64 x.v8),(lstV x.v9 x.v10 x.v11 4)]⟩ false,.cells x.v12 false]
  ex:=fun d=>match d with | .k0 ..=>.exit 2
  pick:=fun e=>match e with | .exit 2=>[10] | _=>[]
  dv:=fun d=>match d with | .k0 d0 d1 d2 d3 d4 d5 d6 d7=>[(.slice (some ⟨1,0,none⟩) d0 1)]
  dh:=fun d=>match d with | .k0 d0 d1 d2 d3 d4 d5 d6 d7=>[.cells ⟨[(.string d1),(.int .i64 d2),(.int .i64 d3),(lstV d4 d5 d6 4)]⟩ false,.cells d7 false]
theorem ok23_1:Lp23_1.OkS:=⟨fun x=>rfl,fun x=>rfl,fun x w=>rfl,fun x=>(fun h=>by have h2:(allFz x.v12&&true)=true:=h;simp only [Bool.and_eq_true]at h2;obtain ⟨g0,_⟩:=h2;exact (all_box_cons rfl (all_box_cons (boxD_arr g0) all_box_nil))),fun x w=>rfl,fun x w=>rfl,(fun q j h=>by cases h),fun d=>by cases d<;>rfl,fun d=>by cases d<;>rfl,fun d=>match d with | .k0 d0 d1 d2 d3 d4 d5 d6 d7=>(fun h=>by have h2:(allFz d7&&true)=true:=h;simp only [Bool.and_eq_true]at h2;obtain ⟨g0,_⟩:=h2;exact (all_box_cons rfl (all_box_cons (boxD_arr g0) all_box_nil))),fun d=>by cases d<;>(intro h;cases h),fun d=>by cases d<;>rfl,fun d=>by cases d<;>rfl,by decide,by decide⟩
def rd23_1 (x:X23_1):RT (Sum X23_1 D23_1):=match x with
  | ⟨v0,v1,v2,v3,v4,v5,v6,v7,v8,v9,v10,v11,v12⟩ =>
     .br (decide (v5<(Int.ofNat v11))) (.br (and (decide ((0:Int)≤v5)) (decide (v5<(Int.ofNat v11)))) (.br (rdOk v9 [Leaf.str,(Leaf.int .i64),(Leaf.int .i64),(Leaf.int .i64)] (v10+((Int.toNat v5)*4))) (.br (F63_ok (getStr v9 (v10+((Int.toNat v5)*4))) (getInt v9 ((v10+((Int.toNat v5)*4))+1)) (getInt v9 (((v10+((Int.toNat v5)*4))+1)+1)) (getInt v9 ((((v10+((Int.toNat v5)*4))+1)+1)+1)) v0) (.br (F63_0 (getStr v9 (v10+((Int.toNat v5)*4))) (getInt v9 ((v10+((Int.toNat v5)*4))+1)) (getInt v9 (((v10+((Int.toNat v5)*4))+1)+1)) (getInt v9 ((((v10+((Int.toNat v5)*4))+1)+1)+1)) v0) (.br (and (decide ((0:Int)≤v5)) (decide (v5<(Int.ofNat v11)))) (.br (isInt .i64 v9 ((v10+((Int.toNat v5)*4))+1)) (.br (and (decide ((0:Int)≤v5)) (decide (v5<(Int.ofNat v3)))) (.br (isInt .i64 v1 (v2+((Int.toNat v5)*1))) (.br (and (decide ((0:Int)≤(getInt v9 ((v10+((Int.toNat v5)*4))+1)))) (decide ((getInt v9 ((v10+((Int.toNat v5)*4))+1))<(Int.ofNat v4))))
     (.br (and true (and (decide ((Array.size ⟨[(Value.int .i64 (getInt v1 (v2+((Int.toNat v5)*1))))]⟩)=1)) (and (decide (((0+((Int.toNat (getInt v9 ((v10+((Int.toNat v5)*4))+1)))*1))+1)≤(Array.size v12))) (and true true)))) (.br (allFz (wcells v12 (0+((Int.toNat (getInt v9 ((v10+((Int.toNat v5)*4))+1)))*1)) [(Value.int .i64 (getInt v1 (v2+((Int.toNat v5)*1))))])) (.leaf (.inl ⟨v0,v1,v2,v3,v4,(IntKind.wrap .i64 (v5+(1:Int))),v6,v7,v8,v9,v10,v11,(wcells v12 (0+((Int.toNat (getInt v9 ((v10+((Int.toNat v5)*4))+1)))*1)) [(Value.int .i64 (getInt v1 (v2+((Int.toNat v5)*1))))])⟩)) (.no)) (.no)) (.no)) (.no)) (.no)) (.no)) (.no)) (.br (allFz v12) (.leaf (.inl ⟨v0,v1,v2,v3,v4,(IntKind.wrap .i64 (v5+(1:Int))),v6,v7,v8,v9,v10,v11,v12⟩)) (.no))) (.no)) (.no)) (.no)) (.br (allFz v12) (.leaf (.inr (.k0 (v4) (v6) (v7) (v8) (v9) (v10) (v11) (v12)))) (.no))
theorem T23_1n  (y:List Value) (v0:Int) (v1:Array Value) (v2:Nat) (v3:Nat) (v4:Nat) (v5:Int) (v6:ByteArray) (v7:Int) (v8:Int) (v9:Array Value) (v10:Nat) (v11:Nat) (v12:Array Value):evC Try.prog (Ans.c (p52.or (p61.or (p62.or p63)))) 60 (.code none (theLoop Try.prog 23 1) ⟨sets (junkF 80 y) [(1,(.int .i64 v0)),(2,(lstV v1 v2 v3 1)),(3,(Value.pointer (Option.some (Addr.mk 0 0 Option.none)))),(10,(.slice (some ⟨1,0,none⟩) v4 1)),(11,(.int .i64 v5))],[],⟨[.cells ⟨[(.string v6),(.int .i64 v7),(.int .i64 v8),(lstV v9 v10 v11 4)]⟩ false,.cells v12 false],0,[]⟩⟩) (kS 80 2 [1,2,3,10,11] Lp23_1.pick [1] 0 none)=(rd23_1 ⟨v0,v1,v2,v3,v4,v5,v6,v7,v8,v9,v10,v11,v12⟩).out Lp23_1.encS:=by kernel_rfl
theorem T23_1  (x:X23_1) (y:List Value):evC Try.prog (Ans.c (p52.or (p61.or (p62.or p63)))) 60 (Lp23_1.headS x y) (kS Lp23_1.N Lp23_1.M Lp23_1.S Lp23_1.pick Lp23_1.Bs Lp23_1.z Lp23_1.q)=(rd23_1 x).out Lp23_1.encS:=by
  obtain ⟨v0,v1,v2,v3,v4,v5,v6,v7,v8,v9,v10,v11,v12⟩:=x
  exact T23_1n  y v0 v1 v2 v3 v4 v5 v6 v7 v8 v9 v10 v11 v12
def L23_1 (x:X23_1):Option D23_1:=loopR rd23_1 x
section
variable (x:X23_1)
def L23_1_k0:Bool:=match L23_1 x with | some (.k0 ..)=>true | _=>false
def Qo0:Nat:=match L23_1 x with | some (.k0 d _ _ _ _ _ _ _)=>d | _=>0
def Qo1:ByteArray:=match L23_1 x with | some (.k0 _ d _ _ _ _ _ _)=>d | _=>ByteArray.empty
def Qo2:Int:=match L23_1 x with | some (.k0 _ _ d _ _ _ _ _)=>d | _=>0
def Qo3:Int:=match L23_1 x with | some (.k0 _ _ _ d _ _ _ _)=>d | _=>0
def Qo4:Array Value:=match L23_1 x with | some (.k0 _ _ _ _ d _ _ _)=>d | _=>#[]
def Qo5:Nat:=match L23_1 x with | some (.k0 _ _ _ _ _ d _ _)=>d | _=>0
def Qo6:Nat:=match L23_1 x with | some (.k0 _ _ _ _ _ _ d _)=>d | _=>0
def Qo7:Array Value:=match L23_1 x with | some (.k0 _ _ _ _ _ _ _ d)=>d | _=>#[]
end
def dec23_1:Task→Option (Code×X23_1)
  | .code none (.loop code) ⟨t,[],⟨[b0,b1],0,[]⟩⟩ =>
    (match Nat.beq (firstReg code) 15,lenIs t 80 with
    | true,true=>((dI .i64 (lget t 1)).bind fun v0=>(dLs 1 (lget t 2)).bind fun q1=>(fun v1 v2 v3=>(dPt 0 0 (lget t 3)).bind fun _=>(dSl 1 1 (lget t 10)).bind fun v4=>(dI .i64 (lget t 11)).bind fun v5=>(dCe b0).bind fun l5=>match l5 with | [y5_0,y5_1,y5_2,y5_3]=>((dSt y5_0).bind fun v6=>(dI .i64 y5_1).bind fun v7=>(dI .i64 y5_2).bind fun v8=>(dLs 4 y5_3).bind fun q9=>(fun v9 v10 v11=>(dAr b1).bind fun v12=>some (code,⟨v0,v1,v2,v3,v4,v5,v6,v7,v8,v9,v10,v11,v12⟩)) q9.1 q9.2.1 q9.2.2) | _=>none) q1.1 q1.2.1 q1.2.2)
    | _,_=>none)
  | _=>none
def alt23_1 (x:X23_1)(j:List Value):AT:=.br (allFz x.v12) (.br (L23_1_k0 x) (loopEnd 80 (.exit 2) [(10,(.slice (some ⟨1,0,none⟩) (Qo0 x) 1))] ⟨[.cells ⟨[(.string (Qo1 x)),(.int .i64 (Qo2 x)),(.int .i64 (Qo3 x)),(lstV (Qo4 x) (Qo5 x) (Qo6 x) 4)]⟩ false,.cells (Qo7 x) false],0,[]⟩ j) (.no)) .no
def la23_1 (J:Task→List Value):Ans:=loopAns Lp23_1.c dec23_1 alt23_1 J
theorem ha23_1:∀(x:X23_1) (j:List Value)(o:Out),(alt23_1 x j).out=some o→Lp23_1.good x∧∃d,loopR rd23_1 x=some d∧o=Lp23_1.tailS x d j:=by
  intro x j o h
  simp only [alt23_1,AT.out]at h
  obtain ⟨g0,h⟩:=cond_some h
  refine ⟨⟨(show (allFz x.v12&&true)=true by rw [g0];rfl),fun a l e=>(by cases e)⟩,?_⟩
  cases hL:L23_1 x with
  | none=>simp only [L23_1_k0,Qo0,Qo1,Qo2,Qo3,Qo4,Qo5,Qo6,Qo7,hL,AT.out,cond_false]at h;cases h
  | some d =>
    refine ⟨d,hL,?_⟩
    cases d<;>(simp only [L23_1_k0,Qo0,Qo1,Qo2,Qo3,Qo4,Qo5,Qo6,Qo7,hL,AT.out,loopEnd,cond_true,cond_false,Option.some.injEq]at h;rw [← h];rfl)
theorem hd23_1:∀(t:Task) (c:Code)(x:X23_1),dec23_1 t=some (c,x)→c=Lp23_1.c→∃T H',t=.code none (.loop Lp23_1.c) ⟨T,[],⟨H',0,[]⟩⟩∧Forgets H' (Lp23_1.H x)∧T.length=Lp23_1.N∧∀kv∈Lp23_1.S.zip (Lp23_1.sl x),lget T kv.1=kv.2:=by
  intro t c x h hc
  unfold dec23_1 at h
  split at h
  · split at h
    case h_2=>cases h
    rename_i hreg hlen
    have e2:=Option.bind_eq_some_iff.1 h
    clear h
    obtain ⟨_,hh,h⟩:=e2
    have hh:=dI_eq hh
    have e2:=Option.bind_eq_some_iff.1 h
    clear h
    obtain ⟨_,hh,h⟩:=e2
    have hh:=dLs_eq hh
    have e2:=Option.bind_eq_some_iff.1 h
    clear h
    obtain ⟨_,hh,h⟩:=e2
    have hh:=dPt_eq hh
    have e2:=Option.bind_eq_some_iff.1 h
    clear h
    obtain ⟨_,hh,h⟩:=e2
    have hh:=dSl_eq hh
    have e2:=Option.bind_eq_some_iff.1 h
    clear h
    obtain ⟨_,hh,h⟩:=e2
    have hh:=dI_eq hh
    have e2:=Option.bind_eq_some_iff.1 h
    clear h
    obtain ⟨_,hh,h⟩:=e2
    obtain rfl:=dCe_eq hh
    clear hh
    split at h
    case h_2=>cases h
    have e2:=Option.bind_eq_some_iff.1 h
    clear h
    obtain ⟨_,hh,h⟩:=e2
    obtain rfl:=dSt_eq hh
    clear hh
    have e2:=Option.bind_eq_some_iff.1 h
    clear h
    obtain ⟨_,hh,h⟩:=e2
    obtain rfl:=dI_eq hh
    clear hh
    have e2:=Option.bind_eq_some_iff.1 h
    clear h
    obtain ⟨_,hh,h⟩:=e2
    obtain rfl:=dI_eq hh
    clear hh
    have e2:=Option.bind_eq_some_iff.1 h
    clear h
    obtain ⟨_,hh,h⟩:=e2
    obtain rfl:=dLs_eq hh
    clear hh
    have e2:=Option.bind_eq_some_iff.1 h
    clear h
    obtain ⟨_,hh,h⟩:=e2
    obtain rfl:=dAr_eq hh
    clear hh
    simp only [Option.some.injEq,Prod.mk.injEq]at h
    obtain ⟨rfl,rfl⟩:=h
    subst hc
    refine ⟨_,_,rfl,(Forgets.refl _),lenIs_eq _ _ hlen,?_⟩
    intro kv hk
    simp only [Lp23_1,List.zip_cons_cons,List.zip_nil_right,List.mem_cons,List.not_mem_nil,or_false]at hk
    rcases hk with rfl | rfl | rfl | rfl | rfl<;>assumption
  · cases h
theorem kl23_1:∃J,Known Try.prog (la23_1 J):=by
  exact LoopS.known noNG mixed ok23_1 (Known.or known52 (Known.or known61 (Known.or known62 known63))) (n:=60) (rd:=rd23_1) (fun x j _=>T23_1  x j) dec23_1 alt23_1 hd23_1 ha23_1
structure R23 where
  r0:Array Value
  r1:Nat
  r2:Nat
  r3:Int
structure A23 where
  a0:ByteArray
  a1:Int
  a2:Int
  a3:Array Value
  a4:Nat
  a5:Nat
  a6:Int
  a7:Array Value
  a8:Nat
  a9:Nat
def Y23_0 (a0:ByteArray)(a1:Int)(a2:Int)(a3:Array Value)(a4:Nat)(a5:Nat)(a6:Int)(a7:Array Value)(a8:Nat)(a9:Nat):X23_0:=(X23_0.mk a6 a7 a8 a9 (2:Int) (0:Int) a0 a1 a2 a3 a4 a5)
def Y23_1 (a0:ByteArray)(a1:Int)(a2:Int)(a3:Array Value)(a4:Nat)(a5:Nat)(a6:Int)(a7:Array Value)(a8:Nat)(a9:Nat):X23_0:=(X23_0.mk a6 a7 a8 a9 (7:Int) (0:Int) a0 a1 a2 a3 a4 a5)
def Y23_2 (a0:ByteArray)(a1:Int)(a2:Int)(a3:Array Value)(a4:Nat)(a5:Nat)(a6:Int)(a7:Array Value)(a8:Nat)(a9:Nat):X23_0:=(X23_0.mk a6 a7 a8 a9 (F52_0 a0 a1 a2 (a3) a4 a5) (0:Int) a0 a1 a2 a3 a4 a5)
def Y23_3 (a0:ByteArray)(a1:Int)(a2:Int)(a3:Array Value)(a4:Nat)(a5:Nat)(a6:Int)(a7:Array Value)(a8:Nat)(a9:Nat):X23_1:=(X23_1.mk (Qn0 (Y23_0 a0 a1 a2 a3 a4 a5 a6 a7 a8 a9)) (Qn1 (Y23_0 a0 a1 a2 a3 a4 a5 a6 a7 a8 a9)) (Qn2 (Y23_0 a0 a1 a2 a3 a4 a5 a6 a7 a8 a9)) (Qn3 (Y23_0 a0 a1 a2 a3 a4 a5 a6 a7 a8 a9)) (Int.toNat (Qn6 (Y23_0 a0 a1 a2 a3 a4 a5 a6 a7 a8 a9))) (0:Int) (Qn5 (Y23_0 a0 a1 a2 a3 a4 a5 a6 a7 a8 a9)) (Qn6 (Y23_0 a0 a1 a2 a3 a4 a5 a6 a7 a8 a9)) (Qn7 (Y23_0 a0 a1 a2 a3 a4 a5 a6 a7 a8 a9)) (Qn8 (Y23_0 a0 a1 a2 a3 a4 a5 a6 a7 a8 a9)) (Qn9 (Y23_0 a0 a1 a2 a3 a4 a5 a6 a7 a8 a9)) (Qn10 (Y23_0 a0 a1 a2 a3 a4 a5 a6 a7 a8 a9)) (zrow ⟨[(Value.int .i64 (0:Int))]⟩ ((Int.toNat (Qn6 (Y23_0 a0 a1 a2 a3 a4 a5 a6 a7 a8 a9)))*1)))
def Y23_4 (a0:ByteArray)(a1:Int)(a2:Int)(a3:Array Value)(a4:Nat)(a5:Nat)(a6:Int)(a7:Array Value)(a8:Nat)(a9:Nat):X23_1:=(X23_1.mk (Qn0 (Y23_1 a0 a1 a2 a3 a4 a5 a6 a7 a8 a9)) (Qn1 (Y23_1 a0 a1 a2 a3 a4 a5 a6 a7 a8 a9)) (Qn2 (Y23_1 a0 a1 a2 a3 a4 a5 a6 a7 a8 a9)) (Qn3 (Y23_1 a0 a1 a2 a3 a4 a5 a6 a7 a8 a9)) (Int.toNat (Qn6 (Y23_1 a0 a1 a2 a3 a4 a5 a6 a7 a8 a9))) (0:Int) (Qn5 (Y23_1 a0 a1 a2 a3 a4 a5 a6 a7 a8 a9)) (Qn6 (Y23_1 a0 a1 a2 a3 a4 a5 a6 a7 a8 a9)) (Qn7 (Y23_1 a0 a1 a2 a3 a4 a5 a6 a7 a8 a9)) (Qn8 (Y23_1 a0 a1 a2 a3 a4 a5 a6 a7 a8 a9)) (Qn9 (Y23_1 a0 a1 a2 a3 a4 a5 a6 a7 a8 a9)) (Qn10 (Y23_1 a0 a1 a2 a3 a4 a5 a6 a7 a8 a9)) (zrow ⟨[(Value.int .i64 (0:Int))]⟩ ((Int.toNat (Qn6 (Y23_1 a0 a1 a2 a3 a4 a5 a6 a7 a8 a9)))*1)))
def Y23_5 (a0:ByteArray)(a1:Int)(a2:Int)(a3:Array Value)(a4:Nat)(a5:Nat)(a6:Int)(a7:Array Value)(a8:Nat)(a9:Nat):X23_1:=(X23_1.mk (Qn0 (Y23_2 a0 a1 a2 a3 a4 a5 a6 a7 a8 a9)) (Qn1 (Y23_2 a0 a1 a2 a3 a4 a5 a6 a7 a8 a9)) (Qn2 (Y23_2 a0 a1 a2 a3 a4 a5 a6 a7 a8 a9)) (Qn3 (Y23_2 a0 a1 a2 a3 a4 a5 a6 a7 a8 a9)) (Int.toNat (Qn6 (Y23_2 a0 a1 a2 a3 a4 a5 a6 a7 a8 a9))) (0:Int) (Qn5 (Y23_2 a0 a1 a2 a3 a4 a5 a6 a7 a8 a9)) (Qn6 (Y23_2 a0 a1 a2 a3 a4 a5 a6 a7 a8 a9)) (Qn7 (Y23_2 a0 a1 a2 a3 a4 a5 a6 a7 a8 a9)) (Qn8 (Y23_2 a0 a1 a2 a3 a4 a5 a6 a7 a8 a9)) (Qn9 (Y23_2 a0 a1 a2 a3 a4 a5 a6 a7 a8 a9)) (Qn10 (Y23_2 a0 a1 a2 a3 a4 a5 a6 a7 a8 a9)) (zrow ⟨[(Value.int .i64 (0:Int))]⟩ ((Int.toNat (Qn6 (Y23_2 a0 a1 a2 a3 a4 a5 a6 a7 a8 a9)))*1)))
def rt23 (a0:ByteArray)(a1:Int)(a2:Int)(a3:Array Value)(a4:Nat)(a5:Nat)(a6:Int)(a7:Array Value)(a8:Nat)(a9:Nat):RT R23 :=
  .br (F52_ok a0 a1 a2 (a3) a4 a5) (.br (decide ((F52_0 a0 a1 a2 (a3) a4 a5)=(0:Int))) (.br (F61_ok a6) (.br (not (F61_0 a6))
     (.sw (eqCode (Lp23_0.c) (Lp23_0.c)) true (by simp only [eqCode_self,arrEq_self]) (.br (L23_0_k0 (Y23_1 a0 a1 a2 a3 a4 a5 a6 a7 a8 a9)) (.br (not (decide ((Qn4 (Y23_1 a0 a1 a2 a3 a4 a5 a6 a7 a8 a9))=(0:Int)))) (.leaf ⟨⟨[]⟩,0,0,(Qn4 (Y23_1 a0 a1 a2 a3 a4 a5 a6 a7 a8 a9))⟩) (.br (and (decide ((Qn6 (Y23_1 a0 a1 a2 a3 a4 a5 a6 a7 a8 a9))=(Qn6 (Y23_1 a0 a1 a2 a3 a4 a5 a6 a7 a8 a9)))) (and (decide ((0:Int)≤(Qn6 (Y23_1 a0 a1 a2 a3 a4 a5 a6 a7 a8 a9)))) (decide ((Qn6 (Y23_1 a0 a1 a2 a3 a4 a5 a6 a7 a8 a9))≤(16777216:Int))))) (.br (decide (((Int.toNat (Qn6 (Y23_1 a0 a1 a2 a3 a4 a5 a6 a7 a8 a9)))*8)≤140737488355328))
          (.sw (eqCode (Lp23_1.c) (Lp23_1.c)) true (by simp only [eqCode_self,arrEq_self]) (.br (allFz (zrow ⟨[(Value.int .i64 (0:Int))]⟩ ((Int.toNat (Qn6 (Y23_1 a0 a1 a2 a3 a4 a5 a6 a7 a8 a9)))*1))) (.br (L23_1_k0 (Y23_4 a0 a1 a2 a3 a4 a5 a6 a7 a8 a9)) (.br (and (allFz (Qo7 (Y23_4 a0 a1 a2 a3 a4 a5 a6 a7 a8 a9))) (decide ((0+((Qo0 (Y23_4 a0 a1 a2 a3 a4 a5 a6 a7 a8 a9))*1))≤(Array.size (Qo7 (Y23_4 a0 a1 a2 a3 a4 a5 a6 a7 a8 a9)))))) (.leaf ⟨(Qo7 (Y23_4 a0 a1 a2 a3 a4 a5 a6 a7 a8 a9)),0,(Qo0 (Y23_4 a0 a1 a2 a3 a4 a5 a6 a7 a8 a9)),(0:Int)⟩) (.no)) (.no)) (.no)) (.no)) (.no)) (.no))) (.no)) (.no)) (.br (decide ((F52_0 a0 a1 a2 (a3) a4 a5)=(0:Int))) (.br (not (decide ((Int.ofNat a9)=(Int.ofNat a5))))
       (.sw (eqCode (Lp23_0.c) (Lp23_0.c)) true (by simp only [eqCode_self,arrEq_self]) (.br (L23_0_k0 (Y23_0 a0 a1 a2 a3 a4 a5 a6 a7 a8 a9)) (.br (not (decide ((Qn4 (Y23_0 a0 a1 a2 a3 a4 a5 a6 a7 a8 a9))=(0:Int)))) (.leaf ⟨⟨[]⟩,0,0,(Qn4 (Y23_0 a0 a1 a2 a3 a4 a5 a6 a7 a8 a9))⟩) (.br (and (decide ((Qn6 (Y23_0 a0 a1 a2 a3 a4 a5 a6 a7 a8 a9))=(Qn6 (Y23_0 a0 a1 a2 a3 a4 a5 a6 a7 a8 a9)))) (and (decide ((0:Int)≤(Qn6 (Y23_0 a0 a1 a2 a3 a4 a5 a6 a7 a8 a9)))) (decide ((Qn6 (Y23_0 a0 a1 a2 a3 a4 a5 a6 a7 a8 a9))≤(16777216:Int))))) (.br (decide (((Int.toNat (Qn6 (Y23_0 a0 a1 a2 a3 a4 a5 a6 a7 a8 a9)))*8)≤140737488355328))
            (.sw (eqCode (Lp23_1.c) (Lp23_1.c)) true (by simp only [eqCode_self,arrEq_self]) (.br (allFz (zrow ⟨[(Value.int .i64 (0:Int))]⟩ ((Int.toNat (Qn6 (Y23_0 a0 a1 a2 a3 a4 a5 a6 a7 a8 a9)))*1))) (.br (L23_1_k0 (Y23_3 a0 a1 a2 a3 a4 a5 a6 a7 a8 a9)) (.br (and (allFz (Qo7 (Y23_3 a0 a1 a2 a3 a4 a5 a6 a7 a8 a9))) (decide ((0+((Qo0 (Y23_3 a0 a1 a2 a3 a4 a5 a6 a7 a8 a9))*1))≤(Array.size (Qo7 (Y23_3 a0 a1 a2 a3 a4 a5 a6 a7 a8 a9)))))) (.leaf ⟨(Qo7 (Y23_3 a0 a1 a2 a3 a4 a5 a6 a7 a8 a9)),0,(Qo0 (Y23_3 a0 a1 a2 a3 a4 a5 a6 a7 a8 a9)),(0:Int)⟩) (.no)) (.no)) (.no)) (.no)) (.no)) (.no))) (.no)) (.no))
       (.sw (eqCode (Lp23_0.c) (Lp23_0.c)) true (by simp only [eqCode_self,arrEq_self]) (.br (L23_0_k0 (Y23_2 a0 a1 a2 a3 a4 a5 a6 a7 a8 a9)) (.br (not (decide ((Qn4 (Y23_2 a0 a1 a2 a3 a4 a5 a6 a7 a8 a9))=(0:Int)))) (.leaf ⟨⟨[]⟩,0,0,(Qn4 (Y23_2 a0 a1 a2 a3 a4 a5 a6 a7 a8 a9))⟩) (.br (and (decide ((Qn6 (Y23_2 a0 a1 a2 a3 a4 a5 a6 a7 a8 a9))=(Qn6 (Y23_2 a0 a1 a2 a3 a4 a5 a6 a7 a8 a9)))) (and (decide ((0:Int)≤(Qn6 (Y23_2 a0 a1 a2 a3 a4 a5 a6 a7 a8 a9)))) (decide ((Qn6 (Y23_2 a0 a1 a2 a3 a4 a5 a6 a7 a8 a9))≤(16777216:Int))))) (.br (decide (((Int.toNat (Qn6 (Y23_2 a0 a1 a2 a3 a4 a5 a6 a7 a8 a9)))*8)≤140737488355328))
            (.sw (eqCode (Lp23_1.c) (Lp23_1.c)) true (by simp only [eqCode_self,arrEq_self]) (.br (allFz (zrow ⟨[(Value.int .i64 (0:Int))]⟩ ((Int.toNat (Qn6 (Y23_2 a0 a1 a2 a3 a4 a5 a6 a7 a8 a9)))*1))) (.br (L23_1_k0 (Y23_5 a0 a1 a2 a3 a4 a5 a6 a7 a8 a9)) (.br (and (allFz (Qo7 (Y23_5 a0 a1 a2 a3 a4 a5 a6 a7 a8 a9))) (decide ((0+((Qo0 (Y23_5 a0 a1 a2 a3 a4 a5 a6 a7 a8 a9))*1))≤(Array.size (Qo7 (Y23_5 a0 a1 a2 a3 a4 a5 a6 a7 a8 a9)))))) (.leaf ⟨(Qo7 (Y23_5 a0 a1 a2 a3 a4 a5 a6 a7 a8 a9)),0,(Qo0 (Y23_5 a0 a1 a2 a3 a4 a5 a6 a7 a8 a9)),(0:Int)⟩) (.no)) (.no)) (.no)) (.no)) (.no)) (.no))) (.no)) (.no)))
      (.sw (eqCode (Lp23_0.c) (Lp23_0.c)) true (by simp only [eqCode_self,arrEq_self]) (.br (L23_0_k0 (Y23_2 a0 a1 a2 a3 a4 a5 a6 a7 a8 a9)) (.br (not (decide ((Qn4 (Y23_2 a0 a1 a2 a3 a4 a5 a6 a7 a8 a9))=(0:Int)))) (.leaf ⟨⟨[]⟩,0,0,(Qn4 (Y23_2 a0 a1 a2 a3 a4 a5 a6 a7 a8 a9))⟩) (.br (and (decide ((Qn6 (Y23_2 a0 a1 a2 a3 a4 a5 a6 a7 a8 a9))=(Qn6 (Y23_2 a0 a1 a2 a3 a4 a5 a6 a7 a8 a9)))) (and (decide ((0:Int)≤(Qn6 (Y23_2 a0 a1 a2 a3 a4 a5 a6 a7 a8 a9)))) (decide ((Qn6 (Y23_2 a0 a1 a2 a3 a4 a5 a6 a7 a8 a9))≤(16777216:Int))))) (.br (decide (((Int.toNat (Qn6 (Y23_2 a0 a1 a2 a3 a4 a5 a6 a7 a8 a9)))*8)≤140737488355328))
           (.sw (eqCode (Lp23_1.c) (Lp23_1.c)) true (by simp only [eqCode_self,arrEq_self]) (.br (allFz (zrow ⟨[(Value.int .i64 (0:Int))]⟩ ((Int.toNat (Qn6 (Y23_2 a0 a1 a2 a3 a4 a5 a6 a7 a8 a9)))*1))) (.br (L23_1_k0 (Y23_5 a0 a1 a2 a3 a4 a5 a6 a7 a8 a9)) (.br (and (allFz (Qo7 (Y23_5 a0 a1 a2 a3 a4 a5 a6 a7 a8 a9))) (decide ((0+((Qo0 (Y23_5 a0 a1 a2 a3 a4 a5 a6 a7 a8 a9))*1))≤(Array.size (Qo7 (Y23_5 a0 a1 a2 a3 a4 a5 a6 a7 a8 a9)))))) (.leaf ⟨(Qo7 (Y23_5 a0 a1 a2 a3 a4 a5 a6 a7 a8 a9)),0,(Qo0 (Y23_5 a0 a1 a2 a3 a4 a5 a6 a7 a8 a9)),(0:Int)⟩) (.no)) (.no)) (.no)) (.no)) (.no)) (.no))) (.no)) (.no)))) (.no)) (.br (decide ((F52_0 a0 a1 a2 (a3) a4 a5)=(0:Int))) (.br (not (decide ((Int.ofNat a9)=(Int.ofNat a5))))
     (.sw (eqCode (Lp23_0.c) (Lp23_0.c)) true (by simp only [eqCode_self,arrEq_self]) (.br (L23_0_k0 (Y23_0 a0 a1 a2 a3 a4 a5 a6 a7 a8 a9)) (.br (not (decide ((Qn4 (Y23_0 a0 a1 a2 a3 a4 a5 a6 a7 a8 a9))=(0:Int)))) (.leaf ⟨⟨[]⟩,0,0,(Qn4 (Y23_0 a0 a1 a2 a3 a4 a5 a6 a7 a8 a9))⟩) (.br (and (decide ((Qn6 (Y23_0 a0 a1 a2 a3 a4 a5 a6 a7 a8 a9))=(Qn6 (Y23_0 a0 a1 a2 a3 a4 a5 a6 a7 a8 a9)))) (and (decide ((0:Int)≤(Qn6 (Y23_0 a0 a1 a2 a3 a4 a5 a6 a7 a8 a9)))) (decide ((Qn6 (Y23_0 a0 a1 a2 a3 a4 a5 a6 a7 a8 a9))≤(16777216:Int))))) (.br (decide (((Int.toNat (Qn6 (Y23_0 a0 a1 a2 a3 a4 a5 a6 a7 a8 a9)))*8)≤140737488355328))
          (.sw (eqCode (Lp23_1.c) (Lp23_1.c)) true (by simp only [eqCode_self,arrEq_self]) (.br (allFz (zrow ⟨[(Value.int .i64 (0:Int))]⟩ ((Int.toNat (Qn6 (Y23_0 a0 a1 a2 a3 a4 a5 a6 a7 a8 a9)))*1))) (.br (L23_1_k0 (Y23_3 a0 a1 a2 a3 a4 a5 a6 a7 a8 a9)) (.br (and (allFz (Qo7 (Y23_3 a0 a1 a2 a3 a4 a5 a6 a7 a8 a9))) (decide ((0+((Qo0 (Y23_3 a0 a1 a2 a3 a4 a5 a6 a7 a8 a9))*1))≤(Array.size (Qo7 (Y23_3 a0 a1 a2 a3 a4 a5 a6 a7 a8 a9)))))) (.leaf ⟨(Qo7 (Y23_3 a0 a1 a2 a3 a4 a5 a6 a7 a8 a9)),0,(Qo0 (Y23_3 a0 a1 a2 a3 a4 a5 a6 a7 a8 a9)),(0:Int)⟩) (.no)) (.no)) (.no)) (.no)) (.no)) (.no))) (.no)) (.no))
     (.sw (eqCode (Lp23_0.c) (Lp23_0.c)) true (by simp only [eqCode_self,arrEq_self]) (.br (L23_0_k0 (Y23_2 a0 a1 a2 a3 a4 a5 a6 a7 a8 a9)) (.br (not (decide ((Qn4 (Y23_2 a0 a1 a2 a3 a4 a5 a6 a7 a8 a9))=(0:Int)))) (.leaf ⟨⟨[]⟩,0,0,(Qn4 (Y23_2 a0 a1 a2 a3 a4 a5 a6 a7 a8 a9))⟩) (.br (and (decide ((Qn6 (Y23_2 a0 a1 a2 a3 a4 a5 a6 a7 a8 a9))=(Qn6 (Y23_2 a0 a1 a2 a3 a4 a5 a6 a7 a8 a9)))) (and (decide ((0:Int)≤(Qn6 (Y23_2 a0 a1 a2 a3 a4 a5 a6 a7 a8 a9)))) (decide ((Qn6 (Y23_2 a0 a1 a2 a3 a4 a5 a6 a7 a8 a9))≤(16777216:Int))))) (.br (decide (((Int.toNat (Qn6 (Y23_2 a0 a1 a2 a3 a4 a5 a6 a7 a8 a9)))*8)≤140737488355328))
          (.sw (eqCode (Lp23_1.c) (Lp23_1.c)) true (by simp only [eqCode_self,arrEq_self]) (.br (allFz (zrow ⟨[(Value.int .i64 (0:Int))]⟩ ((Int.toNat (Qn6 (Y23_2 a0 a1 a2 a3 a4 a5 a6 a7 a8 a9)))*1))) (.br (L23_1_k0 (Y23_5 a0 a1 a2 a3 a4 a5 a6 a7 a8 a9)) (.br (and (allFz (Qo7 (Y23_5 a0 a1 a2 a3 a4 a5 a6 a7 a8 a9))) (decide ((0+((Qo0 (Y23_5 a0 a1 a2 a3 a4 a5 a6 a7 a8 a9))*1))≤(Array.size (Qo7 (Y23_5 a0 a1 a2 a3 a4 a5 a6 a7 a8 a9)))))) (.leaf ⟨(Qo7 (Y23_5 a0 a1 a2 a3 a4 a5 a6 a7 a8 a9)),0,(Qo0 (Y23_5 a0 a1 a2 a3 a4 a5 a6 a7 a8 a9)),(0:Int)⟩) (.no)) (.no)) (.no)) (.no)) (.no)) (.no))) (.no)) (.no)))
    (.sw (eqCode (Lp23_0.c) (Lp23_0.c)) true (by simp only [eqCode_self,arrEq_self]) (.br (L23_0_k0 (Y23_2 a0 a1 a2 a3 a4 a5 a6 a7 a8 a9)) (.br (not (decide ((Qn4 (Y23_2 a0 a1 a2 a3 a4 a5 a6 a7 a8 a9))=(0:Int)))) (.leaf ⟨⟨[]⟩,0,0,(Qn4 (Y23_2 a0 a1 a2 a3 a4 a5 a6 a7 a8 a9))⟩) (.br (and (decide ((Qn6 (Y23_2 a0 a1 a2 a3 a4 a5 a6 a7 a8 a9))=(Qn6 (Y23_2 a0 a1 a2 a3 a4 a5 a6 a7 a8 a9)))) (and (decide ((0:Int)≤(Qn6 (Y23_2 a0 a1 a2 a3 a4 a5 a6 a7 a8 a9)))) (decide ((Qn6 (Y23_2 a0 a1 a2 a3 a4 a5 a6 a7 a8 a9))≤(16777216:Int))))) (.br (decide (((Int.toNat (Qn6 (Y23_2 a0 a1 a2 a3 a4 a5 a6 a7 a8 a9)))*8)≤140737488355328))
         (.sw (eqCode (Lp23_1.c) (Lp23_1.c)) true (by simp only [eqCode_self,arrEq_self]) (.br (allFz (zrow ⟨[(Value.int .i64 (0:Int))]⟩ ((Int.toNat (Qn6 (Y23_2 a0 a1 a2 a3 a4 a5 a6 a7 a8 a9)))*1))) (.br (L23_1_k0 (Y23_5 a0 a1 a2 a3 a4 a5 a6 a7 a8 a9)) (.br (and (allFz (Qo7 (Y23_5 a0 a1 a2 a3 a4 a5 a6 a7 a8 a9))) (decide ((0+((Qo0 (Y23_5 a0 a1 a2 a3 a4 a5 a6 a7 a8 a9))*1))≤(Array.size (Qo7 (Y23_5 a0 a1 a2 a3 a4 a5 a6 a7 a8 a9)))))) (.leaf ⟨(Qo7 (Y23_5 a0 a1 a2 a3 a4 a5 a6 a7 a8 a9)),0,(Qo0 (Y23_5 a0 a1 a2 a3 a4 a5 a6 a7 a8 a9)),(0:Int)⟩) (.no)) (.no)) (.no)) (.no)) (.no)) (.no))) (.no)) (.no)))) (.no)
def en23 (r:R23):Value:=(.tuple ⟨[(lstV r.r0 r.r1 r.r2 1),(.int .i64 r.r3)]⟩)
theorem T23 (J0:Task→List Value)(J1:Task→List Value)(a0:ByteArray)(a1:Int)(a2:Int)(a3:Array Value)(a4:Nat)(a5:Nat)(a6:Int)(a7:Array Value)(a8:Nat)(a9:Nat):evC Try.prog (Ans.c (p52.or (p61.or (p62.or (p63.or ((la23_0 J0).or (la23_1 J1))))))) 60 (.call 23 ⟨[(.agg ⟨[(.string a0),(.int .i64 a1),(.int .i64 a2),(lstV a3 a4 a5 4)]⟩),(.int .i64 a6),(lstV a7 a8 a9 1)]⟩ ⟨[],0,[]⟩) (frzK [1,0])=(rt23 a0 a1 a2 a3 a4 a5 a6 a7 a8 a9).out (fun r=>.ret (en23 r) ⟨[],0,[]⟩):=by kernel_rfl
def F23 (a0:ByteArray)(a1:Int)(a2:Int)(a3:Array Value)(a4:Nat)(a5:Nat)(a6:Int)(a7:Array Value)(a8:Nat)(a9:Nat):Option R23:=(rt23 a0 a1 a2 a3 a4 a5 a6 a7 a8 a9).val
section
variable (a0:ByteArray) (a1:Int) (a2:Int) (a3:Array Value) (a4:Nat) (a5:Nat) (a6:Int) (a7:Array Value) (a8:Nat) (a9:Nat)
def F23_ok:Bool:=(F23 a0 a1 a2 a3 a4 a5 a6 a7 a8 a9).isSome
def F23_0:Array Value:=match F23 a0 a1 a2 a3 a4 a5 a6 a7 a8 a9 with | some r=>r.r0 | none=>#[]
def F23_1:Nat:=match F23 a0 a1 a2 a3 a4 a5 a6 a7 a8 a9 with | some r=>r.r1 | none=>0
def F23_2:Nat:=match F23 a0 a1 a2 a3 a4 a5 a6 a7 a8 a9 with | some r=>r.r2 | none=>0
def F23_3:Int:=match F23 a0 a1 a2 a3 a4 a5 a6 a7 a8 a9 with | some r=>r.r3 | none=>0
end
def dec23:Task→Option (A23×Hp)
  | .call g ⟨[(.agg ⟨[(.string a0),(.int .i64 a1),(.int .i64 a2),(.func (.via 0 ⟨[]⟩ 0 true) a3 ⟨[.slice (some ⟨0,a4,none⟩) a5 4]⟩)]⟩),(.int .i64 a6),(.func (.via 0 ⟨[]⟩ 0 true) a7 ⟨[.slice (some ⟨0,a8,none⟩) a9 1]⟩)]⟩ h=>(match Nat.beq g 23 with | true=>some (⟨a0,a1,a2,a3,a4,a5,a6,a7,a8,a9⟩,h) | false=>none)
  | _=>none
def alt23 (x:A23)(h:Hp):AT:=.br (F23_ok x.a0 x.a1 x.a2 x.a3 x.a4 x.a5 x.a6 x.a7 x.a8 x.a9) (.leaf (.ret (.tuple ⟨[(lstV (F23_0 x.a0 x.a1 x.a2 x.a3 x.a4 x.a5 x.a6 x.a7 x.a8 x.a9) (F23_1 x.a0 x.a1 x.a2 x.a3 x.a4 x.a5 x.a6 x.a7 x.a8 x.a9) (F23_2 x.a0 x.a1 x.a2 x.a3 x.a4 x.a5 x.a6 x.a7 x.a8 x.a9) 1),(.int .i64 (F23_3 x.a0 x.a1 x.a2 x.a3 x.a4 x.a5 x.a6 x.a7 x.a8 x.a9))]⟩) h)) .no
def p23:Ans:=fnAns dec23 alt23
theorem ha23:∀(x:A23) (h:Hp)(o:Out),(alt23 x h).out=some o→∃r,(rt23 x.a0 x.a1 x.a2 x.a3 x.a4 x.a5 x.a6 x.a7 x.a8 x.a9).val=some r∧o=.ret (en23 r) h:=by
  intro x h o e
  unfold alt23 at e
  simp only [AT.out]at e
  obtain ⟨g,e⟩:=cond_some e
  unfold F23_ok at g
  obtain ⟨r,hF⟩:=Option.isSome_iff_exists.1 g
  have hv:F23 x.a0 x.a1 x.a2 x.a3 x.a4 x.a5 x.a6 x.a7 x.a8 x.a9=(rt23 x.a0 x.a1 x.a2 x.a3 x.a4 x.a5 x.a6 x.a7 x.a8 x.a9).val:=by delta F23;exact rfl
  refine ⟨r,hv.symm.trans hF,?_⟩
  simp only [Option.some.injEq]at e
  rw [← e]
  have k0:F23_0 x.a0 x.a1 x.a2 x.a3 x.a4 x.a5 x.a6 x.a7 x.a8 x.a9=r.r0:=by
    show (match F23 x.a0 x.a1 x.a2 x.a3 x.a4 x.a5 x.a6 x.a7 x.a8 x.a9 with | some r=>r.r0 | none=>#[])=r.r0
    rw [hF]
  have k1:F23_1 x.a0 x.a1 x.a2 x.a3 x.a4 x.a5 x.a6 x.a7 x.a8 x.a9=r.r1:=by
    show (match F23 x.a0 x.a1 x.a2 x.a3 x.a4 x.a5 x.a6 x.a7 x.a8 x.a9 with | some r=>r.r1 | none=>0)=r.r1
    rw [hF]
  have k2:F23_2 x.a0 x.a1 x.a2 x.a3 x.a4 x.a5 x.a6 x.a7 x.a8 x.a9=r.r2:=by
    show (match F23 x.a0 x.a1 x.a2 x.a3 x.a4 x.a5 x.a6 x.a7 x.a8 x.a9 with | some r=>r.r2 | none=>0)=r.r2
    rw [hF]
  have k3:F23_3 x.a0 x.a1 x.a2 x.a3 x.a4 x.a5 x.a6 x.a7 x.a8 x.a9=r.r3:=by
    show (match F23 x.a0 x.a1 x.a2 x.a3 x.a4 x.a5 x.a6 x.a7 x.a8 x.a9 with | some r=>r.r3 | none=>0)=r.r3
    rw [hF]
  rw [k0,k1,k2,k3]<;>rfl
theorem hd23:∀(t:Task) (x:A23)(h:Hp),dec23 t=some (x,h)→t=.call 23 ⟨[(.agg ⟨[(.string x.a0),(.int .i64 x.a1),(.int .i64 x.a2),(lstV x.a3 x.a4 x.a5 4)]⟩),(.int .i64 x.a6),(lstV x.a7 x.a8 x.a9 1)]⟩ h:=by
  intro t x h e
  unfold dec23 at e
  split at e
  case h_2=>cases e
  split at e
  case h_2=>cases e
  rename_i hg
  simp only [Option.some.injEq,Prod.mk.injEq]at e
  obtain ⟨rfl,rfl⟩:=e
  rw [Nat.eq_of_beq_eq_true hg]
theorem known23:Known Try.prog p23:=by
  obtain ⟨J0,hJ0⟩:=kl23_0
  obtain ⟨J1,hJ1⟩:=kl23_1
  exact Known.fn noNG mixed (Known.or known52 (Known.or known61 (Known.or known62 (Known.or known63 (Known.or hJ0 hJ1))))) (n:=60) (zs:=[1,0]) 23 (fun x:A23=>[(.agg ⟨[(.string x.a0),(.int .i64 x.a1),(.int .i64 x.a2),(lstV x.a3 x.a4 x.a5 4)]⟩),(.int .i64 x.a6),(lstV x.a7 x.a8 x.a9 1)]) (fun x=>rt23 x.a0 x.a1 x.a2 x.a3 x.a4 x.a5 x.a6 x.a7 x.a8 x.a9) en23 (fun x=>T23 J0 J1 x.a0 x.a1 x.a2 x.a3 x.a4 x.a5 x.a6 x.a7 x.a8 x.a9) (fun x=>rfl) dec23 alt23 hd23 ha23
end
end Go.Proofs.Ytoojllndfjamgaa
namespace Go.Gi
open Go.RowKit
noncomputable section
def thV (y:Nat)(bl:List Ob)(v:Value):Option (Value×Bool×List Nat) :=
  match v with
  | .slice (some ⟨b,off,none⟩) len sz=>match nthO bl b with
    | some (.cells c false)=>some (lstV c off len sz,allFz c&&decide (off+len*sz≤c.size),[b])
    | _=>none
  | .slice none 0 0=>some (lstV ⟨[]⟩ 0 0 y,true,[])
  | v=>if fz0 v then some (v,true,[]) else none
def thL (bl:List Ob):List Nat→List Value→Option (List Value×Bool×List Nat)
  | _,[]=>some ([],true,[])
  | ys,v::r=>match thV (ys.headD 0) bl v with
    | some (u,b,S)=>match thL bl ys.tail r with
      | some (us,b',S')=>some (u::us,b&&b',S++S')
      | none=>none
    | none=>none
def thA (ys:List Nat)(bl:List Ob)(v:Value):Option (Value×Bool×List Nat) :=
  match v with
  | .agg ⟨l⟩=>match thL bl ys l with
    | some (us,b,S)=>some (.agg ⟨us⟩,b,S)
    | none=>none
  | v=>thV (ys.headD 0) bl v
def thAll (bl:List Ob):List (List Nat)→List Value→Option (List Value×Bool×List Nat)
  | _,[]=>some ([],true,[])
  | ys,v::r=>match thA (ys.headD []) bl v with
    | some (u,b,S)=>match thAll bl ys.tail r with
      | some (us,b',S')=>some (u::us,b&&b',S++S')
      | none=>none
    | none=>none
def inS1 (S:List Nat)(b:Nat):Bool:=S.any fun x=>Nat.beq x b
def killB (S:List Nat):Nat→List Ob→List Ob
  | _,[]=>[]
  | i,o::r=>(match inS1 S i with | true=>Ob.dead | false=>o)::killB S (i+1) r
open Classical in
def zS (φ:Phi)(X:List Ob)(S:List Nat)(w:World):Nat→Option Obj:=fun B=>if ∃b ob x,inS1 S b=true∧X[b]?=some ob∧ob.rw=true∧φ b=some x∧x.1=B then w.heap[B]? else φ.z B
section
variable {K:Nat→Prop}{w0 w:World} {φ:Phi}{X:List Ob}{S:List Nat}
theorem zS_le (hF:Inv K w0 φ X w):∀B o,φ.z B=some o→zS φ X S w B=some o:=by
  intro B o hB
  unfold zS
  split
  · exact hF.frz B o hB
  · exact hB
theorem zS_frz (hF:Inv K w0 φ X w):∀B o,zS φ X S w B=some o→w.heap[B]?=some o:=by
  intro B o hB
  unfold zS at hB
  split at hB
  · exact hB
  · exact hF.frz B o hB
theorem madeS (hF:Inv K w0 φ X w):Made X.length (zS φ X S w) φ X w :=
  ⟨zS_le hF,fun b c hb hm=>by rw [List.getElem?_eq_none hm]at hb;cases hb⟩
theorem thV_ok (hF:Inv K w0 φ X w) {y:Nat} {v v' u:Value}{b:Bool}{S1:List Nat}(e:thV y X v=some (u,b,S1)) (hb:b=true) (hs:∀x∈S1,x∈S) (hv:VR φ v v'):FR (zS φ X S w) u v':=by
  unfold thV at e
  split at e
  · rename_i b0 off len sz
    rw [nthO_eq]at e
    split at e
    · rename_i c hb0
      simp only [Option.some.injEq,Prod.mk.injEq]at e
      obtain ⟨rfl,h1,rfl⟩:=e
      rw [hb,Bool.and_eq_true,decide_eq_true_eq]at h1
      obtain ⟨B,base,tot,h3,C,el,fr,h5,h6,h7⟩:=hF.obs b0 _ hb0 rfl
      obtain ⟨h8,h9,_⟩:=h7 rfl
      cases hv with
      | sliceZ _ a' k'=>exact .lstZ _ _ _ _
      | slice hφ hl hc =>
        rw [h3]at hφ;cases hφ
        have hin:inS1 S b0=true:=by
          unfold inS1
          rw [List.any_eq_true]
          exact ⟨b0,hs b0 (List.mem_singleton.2 rfl),Nat.beq_refl b0⟩
        have hz:zS φ X S w B=some (.cells C el fr):=by
          unfold zS
          rw [if_pos ⟨b0,_,_,hin,hb0,rfl,h3,rfl⟩]
          exact h5
        exact .lst hz (by omega) (cells_fr (madeS hF) h1.1 h6) hl h1.2
    · cases e
  · simp only [Option.some.injEq,Prod.mk.injEq]at e
    obtain ⟨rfl,_,_⟩:=e
    cases hv
    exact .lstZ _ _ _ _
  · split at e
    · rename_i hf
      simp only [Option.some.injEq,Prod.mk.injEq]at e
      obtain ⟨rfl,_,_⟩:=e
      exact fz0_fr (madeS hF) hf hv
    · cases e
theorem thL_ok (hF:Inv K w0 φ X w):∀{ys:List Nat} {l l' us:List Value}{b:Bool}{S1:List Nat},thL X ys l=some (us,b,S1)→b=true→(∀x∈S1,x∈S)→VRl φ l l'→FRl (zS φ X S w) us l'
  | _,[],_,_,_,_,e,hb,hs,hv=>by
    simp only [thL,Option.some.injEq,Prod.mk.injEq]at e
    obtain ⟨rfl,_,_⟩:=e
    cases hv;exact .nil
  | ys,v::r,_,_,_,_,e,hb,hs,hv=>by
    unfold thL at e
    split at e
    · rename_i u b1 S1 h1
      split at e
      · rename_i us b2 S2 h2
        simp only [Option.some.injEq,Prod.mk.injEq]at e
        obtain ⟨rfl,rfl,rfl⟩:=e
        rw [Bool.and_eq_true]at hb
        cases hv with
        | cons hv hr =>
          exact .cons (thV_ok hF h1 hb.1 (fun x hx=>hs x (List.mem_append_left _ hx)) hv) (thL_ok hF h2 hb.2 (fun x hx=>hs x (List.mem_append_right _ hx)) hr)
      · cases e
    · cases e
theorem thA_ok (hF:Inv K w0 φ X w) {ys:List Nat} {v v' u:Value}{b:Bool}{S1:List Nat}(e:thA ys X v=some (u,b,S1)) (hb:b=true) (hs:∀x∈S1,x∈S) (hv:VR φ v v'):FR (zS φ X S w) u v':=by
  unfold thA at e
  split at e
  · rename_i l
    split at e
    · rename_i us b1 S2 h1
      simp only [Option.some.injEq,Prod.mk.injEq]at e
      obtain ⟨rfl,rfl,rfl⟩:=e
      obtain ⟨⟨zs⟩,rfl,hs'⟩:=hv.agg_inv
      exact (thL_ok hF h1 hb hs hs'.toList).fr
    · cases e
  · exact thV_ok hF e hb hs hv
theorem thAll_ok (hF:Inv K w0 φ X w):∀{ys:List (List Nat)} {l l' us:List Value}{b:Bool}{S1:List Nat},thAll X ys l=some (us,b,S1)→b=true→(∀x∈S1,x∈S)→VRl φ l l'→FRl (zS φ X S w) us l'
  | _,[],_,_,_,_,e,hb,hs,hv=>by
    simp only [thAll,Option.some.injEq,Prod.mk.injEq]at e
    obtain ⟨rfl,_,_⟩:=e
    cases hv;exact .nil
  | ys,v::r,_,_,_,_,e,hb,hs,hv=>by
    unfold thAll at e
    split at e
    · rename_i u b1 S1 h1
      split at e
      · rename_i us b2 S2 h2
        simp only [Option.some.injEq,Prod.mk.injEq]at e
        obtain ⟨rfl,rfl,rfl⟩:=e
        rw [Bool.and_eq_true]at hb
        cases hv with
        | cons hv hr =>
          exact .cons (thA_ok hF h1 hb.1 (fun x hx=>hs x (List.mem_append_left _ hx)) hv) (thAll_ok hF h2 hb.2 (fun x hx=>hs x (List.mem_append_right _ hx)) hr)
      · cases e
    · cases e
theorem FRl.vrl {ψ:Phi} {l l':List Value}(h:FRl ψ.z l l'):VRl ψ l l':=by
  induction h with
  | nil=>exact .nil
  | cons h _ ih=>exact .cons h.vr ih
end
section
variable {P:Program}
theorem Fact.thawG {zss:List (List Nat)}{f:FuncId}{l us:List Value}{v:Value}{b:Bool}{S:List Nat}{h h1:Hp}(ht:thAll h.bl zss l=some (us,b,S)) (hb:b=true)
    (hf:Fact P (.call f ⟨us⟩ ⟨[],0,[]⟩) (.ret v h1)) (hg:gr v=true):Fact P (.call f ⟨l⟩ h) (.ret v h):=by
  obtain ⟨_,hh⟩:=hf.1 (Nat.le_refl _)
  refine ⟨fun _=>⟨Pres.refl _,?_⟩,trivial⟩
  intro K w0 φ w args' n hI hA
  obtain ⟨ys⟩:=args'
  have hA1:=thAll_ok (S:=S) hI ht hb (fun _ h=>h) hA.toList
  have hZ:Inv (fun k=>k<w.heap.size∧zS φ h.bl S w k=none) w ⟨fun _=>none,zS φ h.bl S w⟩ ([]:List Ob) w :=
    ⟨fun b ob h=>by simp at h,fun b b' ob ob' x y _ h=>by simp at h,fun b ob x h=>by simp at h,fun _ _=>rfl,fun _ h=>h.1,Nat.le_refl _,rfl,rfl,rfl,fun _ _=>rfl,zS_frz hI,fun b ob x h=>by simp at h,fun _ h=>h.2⟩
  have hA2:VRs ⟨fun _=>none,zS φ h.bl S w⟩ ⟨us⟩ ⟨ys⟩:=(FRl.vrl (ψ:=⟨fun _=>none,zS φ h.bl S w⟩) hA1).vrs
  refine (hh _ w _ w ⟨ys⟩ n hZ hA2).mono ?_
  intro e w' he
  cases e with
  | returned v' =>
    obtain ⟨φ',hle,hv',hF⟩:=he
    have hI':Inv K w0 φ ([]++h.bl) w:=hI
    have hsame:∀k,k<w.heap.size→w'.heap[k]?=w.heap[k]?:=by
      intro k hk
      cases hz:zS φ h.bl S w k with
      | none=>exact hF.keep k ⟨hk,hz⟩
      | some o=>rw [hF.frz k o (hle.zz k o hz),zS_frz hI k o hz]
    have hW:Inv (fun k=>k<w.heap.size∧¬RwAt φ ([]:List Ob) k∧φ.z k=none) w ⟨fun _=>none,φ.z⟩ (([]:List Ob)++[]) w' :=
      ⟨fun b ob h=>by simp at h,fun b b' ob ob' x y _ h=>by simp at h,fun b ob x h=>by simp at h,fun k hk=>hsame k hk.1,fun _ h=>h.1,hF.size,hF.os,hF.tape,hF.output,fun _ _=>rfl,
        fun B o hB=>by
          have h1:=hI.frz B o hB
          rw [hsame B ((Array.getElem?_eq_some_iff.1 h1).1)];exact h1,
        fun b ob x h=>by simp at h,fun _ h=>h.2.2⟩
    have hlec:le (cut φ ([]:List Ob).length) ⟨fun _=>none,φ.z⟩:=⟨fun b x hx=>(by rw [cut_ge (show ([]:List Ob).length≤b from Nat.zero_le b)]at hx;cases hx),fun _ _ h=>h⟩
    obtain ⟨φ'',q1,q2,q3⟩:=hI'.widen (H1:=[]) (X:=[]) hW hlec .nil
    refine ⟨φ'',q1,?_,q3⟩
    rw [gr_eq hg hv'];exact gr_refl hg
  | panicked ch=>exact he.elim
  | outgrown=>exact he.elim
def AT.grH (h:Hp):AT→AT
  | .leaf (.ret v _)=>match gr v with | true=>.leaf (.ret v h) | false=>.no
  | .br b x y=>.br b (x.grH h) (y.grH h)
  | _=>.no
theorem AT.grH_out {h:Hp}{o:Out}:∀{a:AT},(a.grH h).out=some o→∃v h1,a.out=some (.ret v h1)∧gr v=true∧o=.ret v h
  | .leaf o',e=>by
    cases o' with
    | ret v h1 =>
      unfold AT.grH at e
      cases hg:gr v with
      | true=>rw [hg]at e;simp only [AT.out,Option.some.injEq]at e;exact ⟨v,h1,rfl,hg,e.symm⟩
      | false=>rw [hg]at e;cases e
    | _=>cases e
  | .no,e=>by cases e
  | .br b x y,e=>by
    cases b with
    | true=>exact AT.grH_out (a:=x) e
    | false=>exact AT.grH_out (a:=y) e
def thawG (g:Nat)(zss:List (List Nat))(p:Ans):Ans
  | .call f ⟨l⟩ h=>match Nat.beq f g with
    | true=>match thAll h.bl zss l with
      | some (us,b,_)=>match p (.call f ⟨us⟩ ⟨[],0,[]⟩) with
        | some a=>some (.br b (a.grH h) .no)
        | none=>none
      | none=>none
    | false=>none
  | _=>none
theorem Known.thawG {p:Ans}(hp:Known P p) (g:Nat) (zss:List (List Nat)):Known P (thawG g zss p):=by
  intro t x o e ho
  unfold Gi.thawG at e
  split at e
  case h_2=>cases e
  rename_i f l h
  split at e
  case h_2=>cases e
  split at e
  case h_2=>cases e
  rename_i us b S ht
  split at e
  case h_2=>cases e
  rename_i a ha
  simp only [Option.some.injEq]at e
  subst e
  obtain ⟨hb,h2⟩:=cond_some (show cond b (a.grH h).out none=some o from ho)
  obtain ⟨v,h1,h3,h4,rfl⟩:=AT.grH_out h2
  exact Fact.thawG ht hb (hp _ a _ ha h3) h4
end
end
end Go.Gi
namespace Go.Proofs.Ytoojllndfjamgaa
open Go.Gi Go.RowKit Go.Proofs.Ytoojllndfjamgaa.Old
noncomputable section
set_option maxRecDepth 100000
set_option maxHeartbeats 4000000
structure X21_1 where
  v0:Array Value
  v1:Nat
  v2:Nat
  v3:Int
  v4:Int
  v5:Int
inductive D21_1 where
  | k0 (d0:Array Value) (d1:Nat) (d2:Nat) (d3:Int) (d4:Int)
def Lp21_1:LoopOf X21_1 D21_1 where
  c:=(theLoop Try.prog 21 1)
  N:=34
  M:=0
  S:=[0,3,4,5]
  sl:=fun x=>[(lstV x.v0 x.v1 x.v2 1),(.int .i64 x.v3),(.int .i64 x.v4),(.int .i64 x.v5)]
  hp:=fun x=>[]
  ex:=fun d=>match d with | .k0 ..=>.exit 2
  pick:=fun e=>match e with | .exit 2=>[0,3,4] | _=>[]
  dv:=fun d=>match d with | .k0 d0 d1 d2 d3 d4=>[(lstV d0 d1 d2 1),(.int .i64 d3),(.int .i64 d4)]
  dh:=fun d=>match d with | .k0 d0 d1 d2 d3 d4=>[]
theorem ok21_1:Lp21_1.Ok:=⟨fun x=>rfl,fun x=>rfl,fun x=>rfl,fun x=>rfl,fun d=>by cases d<;>rfl,fun d=>by cases d<;>rfl,fun d=>by cases d<;>rfl,fun d=>by cases d<;>(intro h;cases h),fun d=>by cases d<;>rfl,fun d=>by cases d<;>rfl⟩
def rd21_1 (x:X21_1):RT (Sum X21_1 D21_1):=match x with
  | ⟨v0,v1,v2,v3,v4,v5⟩ =>
     .br (decide (v5<(8:Int))) (.br (decide ((32768:Int)≤v3)) (.leaf (.inl ⟨v0,v1,v2,(xorI .i64 (Int.tmod (IntKind.wrap .i64 ((2:Int)*v3)) (65536:Int)) (4129:Int)),v4,(IntKind.wrap .i64 (v5+(1:Int)))⟩)) (.leaf (.inl ⟨v0,v1,v2,(Int.tmod (IntKind.wrap .i64 ((2:Int)*v3)) (65536:Int)),v4,(IntKind.wrap .i64 (v5+(1:Int)))⟩))) (.leaf (.inr (.k0 (v0) (v1) (v2) (v3) (v4))))
theorem T21_1  (y:List Value) (v0:Array Value) (v1:Nat) (v2:Nat) (v3:Int) (v4:Int) (v5:Int):evC Try.prog (Ans.c (fun _=>none:Ans)) 60 (.code none (theLoop Try.prog 21 1) ⟨sets (junkF 34 y) [(0,(lstV v0 v1 v2 1)),(3,(.int .i64 v3)),(4,(.int .i64 v4)),(5,(.int .i64 v5))],[],⟨[],0,[]⟩⟩) (sumK 0 34 Lp21_1.pk)=(rd21_1 ⟨v0,v1,v2,v3,v4,v5⟩).out Lp21_1.enc:=by kernel_rfl
def L21_1 (x:X21_1):Option D21_1:=loopR rd21_1 x
section
variable (x:X21_1)
def L21_1_k0:Bool:=match L21_1 x with | some (.k0 ..)=>true | _=>false
def Qp0:Array Value:=match L21_1 x with | some (.k0 d _ _ _ _)=>d | _=>#[]
def Qp1:Nat:=match L21_1 x with | some (.k0 _ d _ _ _)=>d | _=>0
def Qp2:Nat:=match L21_1 x with | some (.k0 _ _ d _ _)=>d | _=>0
def Qp3:Int:=match L21_1 x with | some (.k0 _ _ _ d _)=>d | _=>0
def Qp4:Int:=match L21_1 x with | some (.k0 _ _ _ _ d)=>d | _=>0
end
def dec21_1:Task→Option (Code×X21_1)
  | .code none (.loop code) ⟨t,[],⟨[],0,[]⟩⟩ =>
    (match Nat.beq (firstReg code) 7,lenIs t 34,lget t 0,lget t 3,lget t 4,lget t 5 with
    | true,true,(.func (.via 0 ⟨[]⟩ 0 true) v0 ⟨[.slice (some ⟨0,v1,none⟩) v2 1]⟩),(.int .i64 v3),(.int .i64 v4),(.int .i64 v5)=>some (code,⟨v0,v1,v2,v3,v4,v5⟩)
    | _,_,_,_,_,_=>none)
  | _=>none
def alt21_1 (x:X21_1)(j:List Value):AT:=.br (L21_1_k0 x) (loopEnd 34 (.exit 2) [(0,(lstV (Qp0 x) (Qp1 x) (Qp2 x) 1)),(3,(.int .i64 (Qp3 x))),(4,(.int .i64 (Qp4 x)))] ⟨[],0,[]⟩ j) (.no)
def la21_1 (J:Task→List Value):Ans:=loopAns Lp21_1.c dec21_1 alt21_1 J
theorem ha21_1:∀(x:X21_1) (j:List Value)(o:Out),(alt21_1 x j).out=some o→∃d,loopR rd21_1 x=some d∧o=Lp21_1.tail d j:=by
  intro x j o h
  unfold alt21_1 at h
  cases hL:L21_1 x with
  | none=>simp [L21_1_k0,Qp0,Qp1,Qp2,Qp3,Qp4,hL,AT.out]at h
  | some d =>
    refine ⟨d,hL,?_⟩
    cases d<;>(simp only [L21_1_k0,Qp0,Qp1,Qp2,Qp3,Qp4,hL,AT.out,loopEnd,cond_true,cond_false,Option.some.injEq]at h;rw [← h];rfl)
theorem hd21_1:∀(t:Task) (c:Code)(x:X21_1),dec21_1 t=some (c,x)→c=Lp21_1.c→∃T,t=.code none (.loop Lp21_1.c) ⟨T,[],⟨Lp21_1.hp x,0,[]⟩⟩∧T.length=Lp21_1.N∧∀kv∈Lp21_1.S.zip (Lp21_1.sl x),lget T kv.1=kv.2:=by
  intro t c x h hc
  unfold dec21_1 at h
  split at h
  case h_2=>cases h
  split at h
  case h_2=>cases h
  simp only [Option.some.injEq,Prod.mk.injEq]at h
  obtain ⟨rfl,rfl⟩:=h
  subst hc
  refine ⟨_,rfl,lenIs_eq _ _ (by assumption),?_⟩
  intro kv hk
  simp only [Lp21_1,List.zip_cons_cons,List.zip_nil_right,List.mem_cons,List.not_mem_nil,or_false]at hk
  rcases hk with rfl | rfl | rfl | rfl<;>assumption
theorem kl21_1:∃J,Known Try.prog (la21_1 J):=by
  exact LoopOf.known noNG mixed ok21_1 (by decide) (by decide) (Known.nothing Try.prog) (n:=60) (rd:=rd21_1) (fun x j=>T21_1  j x.v0 x.v1 x.v2 x.v3 x.v4 x.v5) dec21_1 alt21_1 hd21_1 ha21_1
structure X21_0 where
  v0:Array Value
  v1:Nat
  v2:Nat
  v3:Int
  v4:Int
inductive D21_0 where
  | k0 (d0:Int)
def Lp21_0:LoopOf X21_0 D21_0 where
  c:=(theLoop Try.prog 21 0)
  N:=34
  M:=0
  S:=[0,3,4]
  sl:=fun x=>[(lstV x.v0 x.v1 x.v2 1),(.int .i64 x.v3),(.int .i64 x.v4)]
  hp:=fun x=>[]
  ex:=fun d=>match d with | .k0 ..=>.exit 0
  pick:=fun e=>match e with | .exit 0=>[3] | _=>[]
  dv:=fun d=>match d with | .k0 d0=>[(.int .i64 d0)]
  dh:=fun d=>match d with | .k0 d0=>[]
theorem ok21_0:Lp21_0.Ok:=⟨fun x=>rfl,fun x=>rfl,fun x=>rfl,fun x=>rfl,fun d=>by cases d<;>rfl,fun d=>by cases d<;>rfl,fun d=>by cases d<;>rfl,fun d=>by cases d<;>(intro h;cases h),fun d=>by cases d<;>rfl,fun d=>by cases d<;>rfl⟩
def rd21_0 (x:X21_0):RT (Sum X21_0 D21_0):=match x with
  | ⟨v0,v1,v2,v3,v4⟩ =>
     .br (decide (v4<(Int.ofNat v2))) (.br (and (decide ((0:Int)≤v4)) (decide (v4<(Int.ofNat v2)))) (.br (isInt .u8 v0 (v1+((Int.toNat v4)*1)))
       (.sw (eqCode (Lp21_1.c) (Lp21_1.c)) true (by simp only [eqCode_self,arrEq_self])
     (.br (L21_1_k0 (X21_1.mk v0 v1 v2 (xorI .i64 v3 (IntKind.wrap .i64 ((IntKind.wrap .i64 (getInt v0 (v1+((Int.toNat v4)*1))))*(256:Int)))) v4 (0:Int))) (.leaf (.inl ⟨(Qp0 (X21_1.mk v0 v1 v2 (xorI .i64 v3 (IntKind.wrap .i64 ((IntKind.wrap .i64 (getInt v0 (v1+((Int.toNat v4)*1))))*(256:Int)))) v4 (0:Int))),(Qp1 (X21_1.mk v0 v1 v2 (xorI .i64 v3 (IntKind.wrap .i64 ((IntKind.wrap .i64 (getInt v0 (v1+((Int.toNat v4)*1))))*(256:Int)))) v4 (0:Int))),(Qp2 (X21_1.mk v0 v1 v2 (xorI .i64 v3 (IntKind.wrap .i64 ((IntKind.wrap .i64 (getInt v0 (v1+((Int.toNat v4)*1))))*(256:Int)))) v4 (0:Int))),(Qp3 (X21_1.mk v0 v1 v2 (xorI .i64 v3 (IntKind.wrap .i64 ((IntKind.wrap .i64 (getInt v0 (v1+((Int.toNat v4)*1))))*(256:Int)))) v4 (0:Int))),(IntKind.wrap .i64 ((Qp4 (X21_1.mk v0 v1 v2 (xorI .i64 v3 (IntKind.wrap .i64 ((IntKind.wrap .i64 (getInt v0 (v1+((Int.toNat v4)*1))))*(256:Int)))) v4 (0:Int)))+(1:Int)))⟩)) (.no)) (.no)) (.no)) (.no)) (.leaf (.inr (.k0 (v3))))
theorem T21_0 (J1:Task→List Value)(y:List Value)(v0:Array Value)(v1:Nat)(v2:Nat)(v3:Int)(v4:Int):evC Try.prog (Ans.c (la21_1 J1)) 60 (.code none (theLoop Try.prog 21 0) ⟨sets (junkF 34 y) [(0,(lstV v0 v1 v2 1)),(3,(.int .i64 v3)),(4,(.int .i64 v4))],[],⟨[],0,[]⟩⟩) (sumK 0 34 Lp21_0.pk)=(rd21_0 ⟨v0,v1,v2,v3,v4⟩).out Lp21_0.enc:=by kernel_rfl
def L21_0 (x:X21_0):Option D21_0:=loopR rd21_0 x
section
variable (x:X21_0)
def L21_0_k0:Bool:=match L21_0 x with | some (.k0 ..)=>true | _=>false
def Qq0:Int:=match L21_0 x with | some (.k0 d)=>d | _=>0
end
def dec21_0:Task→Option (Code×X21_0)
  | .code none (.loop code) ⟨t,[],⟨[],0,[]⟩⟩ =>
    (match Nat.beq (firstReg code) 3,lenIs t 34,lget t 0,lget t 3,lget t 4 with
    | true,true,(.func (.via 0 ⟨[]⟩ 0 true) v0 ⟨[.slice (some ⟨0,v1,none⟩) v2 1]⟩),(.int .i64 v3),(.int .i64 v4)=>some (code,⟨v0,v1,v2,v3,v4⟩)
    | _,_,_,_,_=>none)
  | _=>none
def alt21_0 (x:X21_0)(j:List Value):AT:=.br (L21_0_k0 x) (loopEnd 34 (.exit 0) [(3,(.int .i64 (Qq0 x)))] ⟨[],0,[]⟩ j) (.no)
def la21_0 (J:Task→List Value):Ans:=loopAns Lp21_0.c dec21_0 alt21_0 J
theorem ha21_0:∀(x:X21_0) (j:List Value)(o:Out),(alt21_0 x j).out=some o→∃d,loopR rd21_0 x=some d∧o=Lp21_0.tail d j:=by
  intro x j o h
  unfold alt21_0 at h
  cases hL:L21_0 x with
  | none=>simp [L21_0_k0,Qq0,hL,AT.out]at h
  | some d =>
    refine ⟨d,hL,?_⟩
    cases d<;>(simp only [L21_0_k0,Qq0,hL,AT.out,loopEnd,cond_true,cond_false,Option.some.injEq]at h;rw [← h];rfl)
theorem hd21_0:∀(t:Task) (c:Code)(x:X21_0),dec21_0 t=some (c,x)→c=Lp21_0.c→∃T,t=.code none (.loop Lp21_0.c) ⟨T,[],⟨Lp21_0.hp x,0,[]⟩⟩∧T.length=Lp21_0.N∧∀kv∈Lp21_0.S.zip (Lp21_0.sl x),lget T kv.1=kv.2:=by
  intro t c x h hc
  unfold dec21_0 at h
  split at h
  case h_2=>cases h
  split at h
  case h_2=>cases h
  simp only [Option.some.injEq,Prod.mk.injEq]at h
  obtain ⟨rfl,rfl⟩:=h
  subst hc
  refine ⟨_,rfl,lenIs_eq _ _ (by assumption),?_⟩
  intro kv hk
  simp only [Lp21_0,List.zip_cons_cons,List.zip_nil_right,List.mem_cons,List.not_mem_nil,or_false]at hk
  rcases hk with rfl | rfl | rfl<;>assumption
theorem kl21_0:∃J,Known Try.prog (la21_0 J):=by
  obtain ⟨J1,hJ1⟩:=kl21_1
  exact LoopOf.known noNG mixed ok21_0 (by decide) (by decide) hJ1 (n:=60) (rd:=rd21_0) (fun x j=>T21_0 J1 j x.v0 x.v1 x.v2 x.v3 x.v4) dec21_0 alt21_0 hd21_0 ha21_0
structure R21 where
  r0:Int
structure A21 where
  a0:Array Value
  a1:Nat
  a2:Nat
def rt21 (a0:Array Value)(a1:Nat)(a2:Nat):RT R21 :=
  .sw (eqCode (Lp21_0.c) (Lp21_0.c)) true (by simp only [eqCode_self,arrEq_self]) (.br (L21_0_k0 (X21_0.mk a0 a1 a2 (65535:Int) (0:Int))) (.leaf ⟨(Qq0 (X21_0.mk a0 a1 a2 (65535:Int) (0:Int)))⟩) (.no)) (.no)
def en21 (r:R21):Value:=(.int .i64 r.r0)
theorem T21 (J0:Task→List Value)(a0:Array Value)(a1:Nat)(a2:Nat):evC Try.prog (Ans.c (la21_0 J0)) 60 (.call 21 ⟨[(lstV a0 a1 a2 1)]⟩ ⟨[],0,[]⟩) (frzK [0])=(rt21 a0 a1 a2).out (fun r=>.ret (en21 r) ⟨[],0,[]⟩):=by kernel_rfl
def F21 (a0:Array Value)(a1:Nat)(a2:Nat):Option R21:=(rt21 a0 a1 a2).val
section
variable (a0:Array Value) (a1:Nat) (a2:Nat)
def F21_ok:Bool:=(F21 a0 a1 a2).isSome
def F21_0:Int:=match F21 a0 a1 a2 with | some r=>r.r0 | none=>0
end
def dec21:Task→Option (A21×Hp)
  | .call g ⟨[(.func (.via 0 ⟨[]⟩ 0 true) a0 ⟨[.slice (some ⟨0,a1,none⟩) a2 1]⟩)]⟩ h=>(match Nat.beq g 21 with | true=>some (⟨a0,a1,a2⟩,h) | false=>none)
  | _=>none
def alt21 (x:A21)(h:Hp):AT:=.br (F21_ok x.a0 x.a1 x.a2) (.leaf (.ret (.int .i64 (F21_0 x.a0 x.a1 x.a2)) h)) .no
def p21:Ans:=fnAns dec21 alt21
theorem ha21:∀(x:A21) (h:Hp)(o:Out),(alt21 x h).out=some o→∃r,(rt21 x.a0 x.a1 x.a2).val=some r∧o=.ret (en21 r) h:=by
  intro x h o e
  unfold alt21 at e
  simp only [AT.out]at e
  obtain ⟨g,e⟩:=cond_some e
  unfold F21_ok at g
  obtain ⟨r,hF⟩:=Option.isSome_iff_exists.1 g
  have hv:F21 x.a0 x.a1 x.a2=(rt21 x.a0 x.a1 x.a2).val:=by delta F21;exact rfl
  refine ⟨r,hv.symm.trans hF,?_⟩
  simp only [Option.some.injEq]at e
  rw [← e]
  have k0:F21_0 x.a0 x.a1 x.a2=r.r0:=by
    show (match F21 x.a0 x.a1 x.a2 with | some r=>r.r0 | none=>0)=r.r0
    rw [hF]
  rw [k0]<;>rfl
theorem hd21:∀(t:Task) (x:A21)(h:Hp),dec21 t=some (x,h)→t=.call 21 ⟨[(lstV x.a0 x.a1 x.a2 1)]⟩ h:=by
  intro t x h e
  unfold dec21 at e
  split at e
  case h_2=>cases e
  split at e
  case h_2=>cases e
  rename_i hg
  simp only [Option.some.injEq,Prod.mk.injEq]at e
  obtain ⟨rfl,rfl⟩:=e
  rw [Nat.eq_of_beq_eq_true hg]
theorem known21:Known Try.prog p21:=by
  obtain ⟨J0,hJ0⟩:=kl21_0
  exact Known.fn noNG mixed hJ0 (n:=60) (zs:=[0]) 21 (fun x:A21=>[(lstV x.a0 x.a1 x.a2 1)]) (fun x=>rt21 x.a0 x.a1 x.a2) en21 (fun x=>T21 J0 x.a0 x.a1 x.a2) (fun x=>rfl) dec21 alt21 hd21 ha21
end
end Go.Proofs.Ytoojllndfjamgaa
