/- TrackChecks proved: Check of track returns what the document says, for any task. Conditions: none. -/
import Derived.Test.YtmppkpdoonljpaaMg8
import Derived.Test.YtmppkpdoonljpaaMg11
set_option linter.unusedVariables false
set_option linter.unusedSimpArgs false
namespace Go.Proofs.Ytmppkpdoonljpaa
open Go.Gi Go.RowKit
noncomputable section
set_option maxRecDepth 100000
set_option maxHeartbeats 1000000
section
variable {ca cp:Array Value}{na np k:Nat}{t0 g1 g2:Int}
theorem F59_of (g:GL S6 6 ca na)(few:na≤1000)(hkn:k<na):F59_ok (getStr ca (0+k*6)) (getInt ca (0+k*6+1)) (getInt ca (0+k*6+1+1)) (getInt ca (0+k*6+1+1+1)) (getInt ca (0+k*6+1+1+1+1)) (getInt ca (0+k*6+1+1+1+1+1)) ca 0 k=true ∧
    F59_0 (getStr ca (0+k*6)) (getInt ca (0+k*6+1)) (getInt ca (0+k*6+1+1)) (getInt ca (0+k*6+1+1+1)) (getInt ca (0+k*6+1+1+1+1)) (getInt ca (0+k*6+1+1+1+1+1)) ca 0 k=trK ca k:=by
  have q:F59 (getStr ca (0+k*6)) (getInt ca (0+k*6+1)) (getInt ca (0+k*6+1+1)) (getInt ca (0+k*6+1+1+1)) (getInt ca (0+k*6+1+1+1+1)) (getInt ca (0+k*6+1+1+1+1+1)) ca 0 k=some ⟨trK ca k⟩:=by
    unfold trK trN
    generalize getStr ca (0+k*6)=s
    generalize getInt ca (0+k*6+1)=a1
    generalize getInt ca (0+k*6+1+1)=a2
    generalize getInt ca (0+k*6+1+1+1)=a3
    generalize getInt ca (0+k*6+1+1+1+1)=a4
    generalize getInt ca (0+k*6+1+1+1+1+1)=a5
    have i2:¬(k:Int)<(k:Int):=by omega
    have l:L59_0 (X59_0.mk ca 0 k (k:Int) 0 s a1 a2 a3 a4 a5)=some (match fst1 (twE ca s) k 0 with | some (i,r)=>.k0 5 s a1 a2 a3 a4 a5 | none=>.k1 s a1 a2 a3 a4 a5) :=
      loop_fst (rd:=rd59_0) (S:=fun j=>X59_0.mk ca 0 k (k:Int) (j:Int) s a1 a2 a3 a4 a5) (E:=twE ca s) (n:=k) (err:=fun _ _=>.k0 5 s a1 a2 a3 a4 a5) (fin:=.k1 s a1 a2 a3 a4 a5) (fun j hj=>step59 g few (by omega) j hj)
        (by simp only [rd59_0,RT.val,i2,decide_false,cond_false]) k 0 (by omega)
    unfold F59 rt59
    simp only [RT.val,F96_of.1,F96_of.2,Int.ofNat_eq_natCast,cond_true]
    cases nmB s with
    | false=>rfl
    | true =>
      cases hf:fst1 (twE ca s) k 0 with
      | some p =>
        rw [hf]at l
        simp only [L59_0_k0,Qc0,l,Option.isSome_some,Bool.not_true,cond_true,cond_false,if_true]
      | none =>
        rw [hf]at l
        simp only [L59_0_k0,L59_0_k1,Qd0,Qd1,Qd2,Qd3,Qd4,Qd5,l,Option.isSome_none,(F58_of _ _ _).1,(F58_of _ _ _).2,(F97_of _).1,(F97_of _).2,Bool.not_true,cond_true,cond_false,if_true,Bool.false_eq_true,if_false]
        cases inB a1 (-100000000) 100000000<;>cases inB a2 (-100000000) 100000000<;>cases inB a3 0 10000000<;>cases inB a4 0 10000<;>cases inB a5 0 600<;>rfl
  exact ⟨by simp only [F59_ok,q];rfl,by simp only [F59_0,q]⟩
theorem F63_of (g:GL S6 6 ca na)(few:na≤1000)(hkn:k<na):F63_ok t0 g1 g2 ca 0 na cp 0 np (k:Int)=true∧F63_0 t0 g1 g2 ca 0 na cp 0 np (k:Int)=trK ca k:=by
  have hki:(k:Int)<(na:Int):=by omega
  have h0:(0:Int)≤(k:Int):=by omega
  have hr:rdOk ca S6 (0+k*6)=true:=srow6 g hkn
  unfold S6 at hr
  have q:F63 t0 g1 g2 ca 0 na cp 0 np (k:Int)=some ⟨trK ca k⟩:=by
    unfold F63 rt63 trK trN
    simp only [RT.val,hki,h0,hr,F99_of.1,F99_of.2,Int.toNat_natCast,Int.ofNat_eq_natCast,decide_true,Bool.and_self,cond_true]
    generalize getStr ca (0+k*6)=s
    generalize getInt ca (0+k*6+1)=a1
    generalize getInt ca (0+k*6+1+1)=a2
    generalize getInt ca (0+k*6+1+1+1)=a3
    generalize getInt ca (0+k*6+1+1+1+1)=a4
    generalize getInt ca (0+k*6+1+1+1+1+1)=a5
    have i2:¬(k:Int)<(k:Int):=by omega
    have l:L63_0 (X63_0.mk (k:Int) 0 t0 g1 g2 ca 0 na cp 0 np s a1 a2 a3 a4 a5)=some (match fst1 (twE ca s) k 0 with | some (i,r)=>.k0 5 t0 g1 g2 ca 0 na cp 0 np s a1 a2 a3 a4 a5 | none=>.k1 t0 g1 g2 ca 0 na cp 0 np s a1 a2 a3 a4 a5) :=
      loop_fst (rd:=rd63_0) (S:=fun j=>X63_0.mk (k:Int) (j:Int) t0 g1 g2 ca 0 na cp 0 np s a1 a2 a3 a4 a5) (E:=twE ca s) (n:=k) (err:=fun _ _=>.k0 5 t0 g1 g2 ca 0 na cp 0 np s a1 a2 a3 a4 a5) (fin:=.k1 t0 g1 g2 ca 0 na cp 0 np s a1 a2 a3 a4 a5) (fun j hj=>step63 g few hkn j hj)
        (by simp only [rd63_0,RT.val,i2,decide_false,cond_false]) k 0 (by omega)
    cases nmB s with
    | false=>rfl
    | true =>
      cases hf:fst1 (twE ca s) k 0 with
      | some p =>
        rw [hf]at l
        simp only [L63_0_k0,Qk0,l,Option.isSome_some,Bool.not_true,cond_true,cond_false,if_true]
      | none =>
        rw [hf]at l
        simp only [L63_0_k0,L63_0_k1,Ql0,Ql1,Ql2,Ql3,Ql4,Ql5,Ql6,Ql7,Ql8,Ql9,Ql10,Ql11,Ql12,Ql13,Ql14,l,Option.isSome_none,(F62_of _ _ _).1,(F62_of _ _ _).2,Bool.not_true,cond_true,cond_false,if_true,Bool.false_eq_true,if_false]
        cases inB a1 (-100000000) 100000000<;>cases inB a2 (-100000000) 100000000<;>cases inB a3 0 10000000<;>cases inB a4 0 10000<;>cases inB a5 0 600<;>rfl
  exact ⟨by simp only [F63_ok,q];rfl,by simp only [F63_0,q]⟩
theorem F60_of (g:GL I5 5 cp np)(few:np≤1000)(hkn:k<np):F60_ok t0 g1 g2 ca 0 na cp 0 np (k:Int)=true∧F60_0 t0 g1 g2 ca 0 na cp 0 np (k:Int)=plK (IntKind.wrap .i64 ((na:Int)-1)) t0 cp k:=by
  have hki:(k:Int)<(np:Int):=by omega
  have h0:(0:Int)≤(k:Int):=by omega
  have h4:(0:Nat)≤k:=by omega
  have h5:k≤np:=by omega
  have hr:rdOk cp I5 (0+k*5)=true:=row5 g hkn
  unfold I5 at hr
  have q:F60 t0 g1 g2 ca 0 na cp 0 np (k:Int)=some ⟨plK (IntKind.wrap .i64 ((na:Int)-1)) t0 cp k⟩:=by
    unfold F60 rt60 plK
    simp only [RT.val,hki,h0,h4,h5,hr,(F58_of _ _ _).1,(F58_of _ _ _).2,(F98_of _).1,(F98_of _).2,Int.toNat_natCast,Int.ofNat_eq_natCast,Nat.add_zero,Nat.sub_zero,decide_true,Bool.and_self,Bool.true_and,cond_true]
    generalize getInt cp (0+k*5)=a1
    generalize getInt cp (0+k*5+1)=a2
    generalize getInt cp (0+k*5+1+1)=a3
    generalize getInt cp (0+k*5+1+1+1)=a4
    generalize getInt cp (0+k*5+1+1+1+1)=a5
    generalize IntKind.wrap .i64 ((na:Int)-1)=w
    have i2:¬(k:Int)<(k:Int):=by omega
    have l:L60_0 (X60_0.mk cp 0 k (k:Int) 0 t0 g1 g2 ca 0 na cp 0 np a1 a2 a3 a4 a5)=some (match fst1 (dbE cp a1 a2) k 0 with | some (i,r)=>.k0 5 t0 g1 g2 ca 0 na cp 0 np a1 a2 a3 a4 a5 | none=>.k1 t0 g1 g2 ca 0 na cp 0 np a1 a2 a3 a4 a5) :=
      loop_fst (rd:=rd60_0) (S:=fun j=>X60_0.mk cp 0 k (k:Int) (j:Int) t0 g1 g2 ca 0 na cp 0 np a1 a2 a3 a4 a5) (E:=dbE cp a1 a2) (n:=k) (err:=fun _ _=>.k0 5 t0 g1 g2 ca 0 na cp 0 np a1 a2 a3 a4 a5) (fin:=.k1 t0 g1 g2 ca 0 na cp 0 np a1 a2 a3 a4 a5) (fun j hj=>step60 g few (by omega) j hj)
        (by simp only [rd60_0,RT.val,i2,decide_false,cond_false]) k 0 (by omega)
    cases hf:fst1 (dbE cp a1 a2) k 0 with
    | some p =>
      rw [hf]at l
      simp only [L60_0_k0,Qe0,l,Option.isSome_some,cond_true,if_true]
      cases inB a1 0 w<;>cases inB a2 t0 100000<;>cases inB a3 (-2000000000) 2000000000<;>cases inB a4 (-2000000000) 2000000000<;>cases inB a5 (-2000000000) 2000000000<;>rfl
    | none =>
      rw [hf]at l
      simp only [L60_0_k0,L60_0_k1,l,Option.isSome_none,cond_true,cond_false,if_true,Bool.false_eq_true,if_false]
      cases inB a1 0 w<;>cases inB a2 t0 100000<;>cases inB a3 (-2000000000) 2000000000<;>cases inB a4 (-2000000000) 2000000000<;>cases inB a5 (-2000000000) 2000000000<;>rfl
  exact ⟨by simp only [F60_ok,q];rfl,by simp only [F60_0,q]⟩
theorem F64_of (g:GL I5 5 cp np)(few:np≤1000)(hkn:k<np):F64_ok t0 g1 g2 ca 0 na cp 0 np (k:Int)=true∧F64_0 t0 g1 g2 ca 0 na cp 0 np (k:Int)=plK (IntKind.wrap .i64 ((na:Int)-1)) t0 cp k:=by
  have hki:(k:Int)<(np:Int):=by omega
  have h0:(0:Int)≤(k:Int):=by omega
  have hr:rdOk cp I5 (0+k*5)=true:=row5 g hkn
  unfold I5 at hr
  have q:F64 t0 g1 g2 ca 0 na cp 0 np (k:Int)=some ⟨plK (IntKind.wrap .i64 ((na:Int)-1)) t0 cp k⟩:=by
    unfold F64 rt64 plK
    simp only [RT.val,hki,h0,hr,(F62_of _ _ _).1,(F62_of _ _ _).2,Int.toNat_natCast,Int.ofNat_eq_natCast,decide_true,Bool.and_self,cond_true]
    generalize getInt cp (0+k*5)=a1
    generalize getInt cp (0+k*5+1)=a2
    generalize getInt cp (0+k*5+1+1)=a3
    generalize getInt cp (0+k*5+1+1+1)=a4
    generalize getInt cp (0+k*5+1+1+1+1)=a5
    generalize IntKind.wrap .i64 ((na:Int)-1)=w
    have i2:¬(k:Int)<(k:Int):=by omega
    have l:L64_0 (X64_0.mk (k:Int) 0 t0 g1 g2 ca 0 na cp 0 np a1 a2 a3 a4 a5)=some (match fst1 (dbE cp a1 a2) k 0 with | some (i,r)=>.k0 5 t0 g1 g2 ca 0 na cp 0 np a1 a2 a3 a4 a5 | none=>.k1 t0 g1 g2 ca 0 na cp 0 np a1 a2 a3 a4 a5) :=
      loop_fst (rd:=rd64_0) (S:=fun j=>X64_0.mk (k:Int) (j:Int) t0 g1 g2 ca 0 na cp 0 np a1 a2 a3 a4 a5) (E:=dbE cp a1 a2) (n:=k) (err:=fun _ _=>.k0 5 t0 g1 g2 ca 0 na cp 0 np a1 a2 a3 a4 a5) (fin:=.k1 t0 g1 g2 ca 0 na cp 0 np a1 a2 a3 a4 a5) (fun j hj=>step64 g few hkn j hj)
        (by simp only [rd64_0,RT.val,i2,decide_false,cond_false]) k 0 (by omega)
    cases hf:fst1 (dbE cp a1 a2) k 0 with
    | some p =>
      rw [hf]at l
      simp only [L64_0_k0,Qm0,l,Option.isSome_some,cond_true,if_true]
      cases inB a1 0 w<;>cases inB a2 t0 100000<;>cases inB a3 (-2000000000) 2000000000<;>cases inB a4 (-2000000000) 2000000000<;>cases inB a5 (-2000000000) 2000000000<;>rfl
    | none =>
      rw [hf]at l
      simp only [L64_0_k0,L64_0_k1,l,Option.isSome_none,cond_true,cond_false,if_true,Bool.false_eq_true,if_false]
      cases inB a1 0 w<;>cases inB a2 t0 100000<;>cases inB a3 (-2000000000) 2000000000<;>cases inB a4 (-2000000000) 2000000000<;>cases inB a5 (-2000000000) 2000000000<;>rfl
  exact ⟨by simp only [F64_ok,q];rfl,by simp only [F64_0,q]⟩
end
def ckT (t0 g1 g2:Int)(ca:Array Value)(na:Nat)(cp:Array Value)(np:Nat):Int×Int×Int :=
  if 5<na then (1,0,3) else if 60<np then (1,0,3) else
  if (inB t0 0 100000&&(inB g1 1 1000000&&inB g2 1 1000000))=true then
    (match fst1 (trK ca) na 0 with
      | some (i,r)=>(2,(i:Int),r)
      | none=>match fst1 (plK (IntKind.wrap .i64 ((na:Int)-1)) t0 cp) np 0 with
        | some (i,r)=>(3,(i:Int),r)
        | none=>(0,0,0))
  else (1,0,7)
section
variable {ca cp:Array Value}{na np k:Nat}{t0 g1 g2:Int}
theorem step20_0 (g:GL S6 6 ca na)(few:na≤1000)(k:Nat)(hk:k<na):(rd20_0 ⟨ca,0,na,(na:Int),(k:Int),t0,g1,g2,ca,0,na,cp,0,np⟩).val =
    some (if trK ca k=0 then .inl ⟨ca,0,na,(na:Int),((k+1:Nat):Int),t0,g1,g2,ca,0,na,cp,0,np⟩ else .inr (.k0 2 (k:Int) (trK ca k) t0 g1 g2 ca 0 na cp 0 np)):=by
  have hki:(k:Int)<(na:Int):=by omega
  have h0:(0:Int)≤(k:Int):=by omega
  have h4:(0:Nat)≤k:=by omega
  have h5:k≤na:=by omega
  have h3:IntKind.wrap .i64 ((k:Int)+1)=((k+1:Nat):Int):=by rw [wrap64_id (by omega) (by omega)];omega
  have hr:rdOk ca S6 (0+k*6)=true:=srow6 g hk
  unfold S6 at hr
  obtain ⟨o,e⟩:=F59_of g few hk
  simp only [rd20_0,RT.val,hki,h0,h3,h4,h5,hr,o,e,Int.toNat_natCast,Int.ofNat_eq_natCast,Nat.add_zero,Nat.sub_zero,decide_true,Bool.and_self,Bool.true_and,cond_true]
  by_cases hz:trK ca k=0
  · simp only [hz,decide_true,Bool.not_true,cond_false,if_true]
  · simp only [hz,decide_false,Bool.not_false,cond_true,if_false]
theorem step21_0 (g:GL S6 6 ca na)(few:na≤1000)(k:Nat)(hk:k<na):(rd21_0 ⟨(k:Int),t0,g1,g2,ca,0,na,cp,0,np⟩).val =
    some (if trK ca k=0 then .inl ⟨((k+1:Nat):Int),t0,g1,g2,ca,0,na,cp,0,np⟩ else .inr (.k0 2 (k:Int) (trK ca k) t0 g1 g2 ca 0 na cp 0 np)):=by
  have hki:(k:Int)<(na:Int):=by omega
  have h3:IntKind.wrap .i64 ((k:Int)+1)=((k+1:Nat):Int):=by rw [wrap64_id (by omega) (by omega)];omega
  obtain ⟨o,e⟩:=F63_of (t0:=t0) (g1:=g1) (g2:=g2) (cp:=cp) (np:=np) g few hk
  simp only [rd21_0,RT.val,hki,h3,o,e,Int.ofNat_eq_natCast,decide_true,cond_true]
  by_cases hz:trK ca k=0
  · simp only [hz,decide_true,Bool.not_true,cond_false,if_true]
  · simp only [hz,decide_false,Bool.not_false,cond_true,if_false]
theorem step20_1 (g:GL I5 5 cp np)(few:np≤1000)(k:Nat)(hk:k<np):(rd20_1 ⟨(np:Int),(k:Int),t0,g1,g2,ca,0,na,cp,0,np⟩).val =
    some (if plK (IntKind.wrap .i64 ((na:Int)-1)) t0 cp k=0 then .inl ⟨(np:Int),((k+1:Nat):Int),t0,g1,g2,ca,0,na,cp,0,np⟩ else .inr (.k0 3 (k:Int) (plK (IntKind.wrap .i64 ((na:Int)-1)) t0 cp k) t0 g1 g2 ca 0 na cp 0 np)):=by
  have hki:(k:Int)<(np:Int):=by omega
  have h3:IntKind.wrap .i64 ((k:Int)+1)=((k+1:Nat):Int):=by rw [wrap64_id (by omega) (by omega)];omega
  obtain ⟨o,e⟩:=F60_of (t0:=t0) (g1:=g1) (g2:=g2) (ca:=ca) (na:=na) g few hk
  simp only [rd20_1,RT.val,hki,h3,o,e,Int.ofNat_eq_natCast,decide_true,cond_true]
  by_cases hz:plK (IntKind.wrap .i64 ((na:Int)-1)) t0 cp k=0
  · simp only [hz,decide_true,Bool.not_true,cond_false,if_true]
  · simp only [hz,decide_false,Bool.not_false,cond_true,if_false]
theorem step21_1 (g:GL I5 5 cp np)(few:np≤1000)(k:Nat)(hk:k<np):(rd21_1 ⟨(k:Int),t0,g1,g2,ca,0,na,cp,0,np⟩).val =
    some (if plK (IntKind.wrap .i64 ((na:Int)-1)) t0 cp k=0 then .inl ⟨((k+1:Nat):Int),t0,g1,g2,ca,0,na,cp,0,np⟩ else .inr (.k0 3 (k:Int) (plK (IntKind.wrap .i64 ((na:Int)-1)) t0 cp k) t0 g1 g2 ca 0 na cp 0 np)):=by
  have hki:(k:Int)<(np:Int):=by omega
  have h3:IntKind.wrap .i64 ((k:Int)+1)=((k+1:Nat):Int):=by rw [wrap64_id (by omega) (by omega)];omega
  obtain ⟨o,e⟩:=F64_of (t0:=t0) (g1:=g1) (g2:=g2) (ca:=ca) (na:=na) g few hk
  simp only [rd21_1,RT.val,hki,h3,o,e,Int.ofNat_eq_natCast,decide_true,cond_true]
  by_cases hz:plK (IntKind.wrap .i64 ((na:Int)-1)) t0 cp k=0
  · simp only [hz,decide_true,Bool.not_true,cond_false,if_true]
  · simp only [hz,decide_false,Bool.not_false,cond_true,if_false]
theorem F20_eq (ga:GL S6 6 ca na)(gp:GL I5 5 cp np):F20 t0 g1 g2 ca 0 na cp 0 np=some ⟨(ckT t0 g1 g2 ca na cp np).1,(ckT t0 g1 g2 ca na cp np).2.1,(ckT t0 g1 g2 ca na cp np).2.2⟩:=by
  unfold F20 rt20 ckT
  simp only [RT.val,(F57_of _).1,(F57_of _).2,(F58_of _ _ _).1,(F58_of _ _ _).2,Int.ofNat_eq_natCast,cond_true]
  by_cases h1:5<na
  · have i1:(5:Int)<(na:Int):=by omega
    rw [if_pos h1]
    simp only [i1,decide_true,cond_true]
  have i1:¬(5:Int)<(na:Int):=by omega
  by_cases h2:60<np
  · have i2:(60:Int)<(np:Int):=by omega
    rw [if_neg h1,if_pos h2]
    simp only [i1,i2,decide_true,decide_false,cond_true,cond_false]
  have i2:¬(60:Int)<(np:Int):=by omega
  rw [if_neg h1,if_neg h2]
  simp only [i1,i2,decide_false,cond_false]
  cases inB t0 0 100000 with
  | false=>rfl
  | true =>
  cases inB g1 1 1000000 with
  | false=>rfl
  | true =>
  cases inB g2 1 1000000 with
  | false=>rfl
  | true =>
  simp only [Bool.not_true,Bool.and_self,cond_true,cond_false,if_true]
  have z1:¬(na:Int)<(na:Int):=by omega
  have z2:¬(np:Int)<(np:Int):=by omega
  have l0:L20_0 (X20_0.mk ca 0 na (na:Int) 0 t0 g1 g2 ca 0 na cp 0 np)=some (match fst1 (trK ca) na 0 with | some (i,r)=>.k0 2 (i:Int) r t0 g1 g2 ca 0 na cp 0 np | none=>.k1 t0 g1 g2 ca 0 na cp 0 np) :=
    loop_fst (rd:=rd20_0) (S:=fun k=>X20_0.mk ca 0 na (na:Int) (k:Int) t0 g1 g2 ca 0 na cp 0 np) (E:=trK ca) (n:=na) (err:=fun i r=>.k0 2 (i:Int) r t0 g1 g2 ca 0 na cp 0 np) (fin:=.k1 t0 g1 g2 ca 0 na cp 0 np) (fun k hk=>step20_0 ga (by omega) k hk)
      (by simp only [rd20_0,RT.val,z1,decide_false,cond_false]) na 0 (by omega)
  cases hf:fst1 (trK ca) na 0 with
  | some p =>
    obtain ⟨i,r⟩:=p
    rw [hf]at l0
    simp only [L20_0_k0,Qg0,Qg1,Qg2,l0,cond_true]
  | none =>
  rw [hf]at l0
  simp only [L20_0_k0,L20_0_k1,Qh0,Qh1,Qh2,Qh3,Qh4,Qh5,Qh6,Qh7,Qh8,l0,cond_true,cond_false]
  have l1:L20_1 (X20_1.mk (np:Int) 0 t0 g1 g2 ca 0 na cp 0 np)=some (match fst1 (plK (IntKind.wrap .i64 ((na:Int)-1)) t0 cp) np 0 with | some (i,r)=>.k0 3 (i:Int) r t0 g1 g2 ca 0 na cp 0 np | none=>.k1 t0 g1 g2 ca 0 na cp 0 np) :=
    loop_fst (rd:=rd20_1) (S:=fun k=>X20_1.mk (np:Int) (k:Int) t0 g1 g2 ca 0 na cp 0 np) (E:=plK (IntKind.wrap .i64 ((na:Int)-1)) t0 cp) (n:=np) (err:=fun i r=>.k0 3 (i:Int) r t0 g1 g2 ca 0 na cp 0 np) (fin:=.k1 t0 g1 g2 ca 0 na cp 0 np) (fun k hk=>step20_1 gp (by omega) k hk)
      (by simp only [rd20_1,RT.val,z2,decide_false,cond_false]) np 0 (by omega)
  cases hf2:fst1 (plK (IntKind.wrap .i64 ((na:Int)-1)) t0 cp) np 0 with
  | some p =>
    obtain ⟨i,r⟩:=p
    rw [hf2]at l1
    simp only [L20_1_k0,Qi0,Qi1,Qi2,l1,cond_true]
  | none =>
    rw [hf2]at l1
    simp only [L20_1_k0,L20_1_k1,l1,cond_true,cond_false]
theorem F21_eq (ga:GL S6 6 ca na)(gp:GL I5 5 cp np):F21 t0 g1 g2 ca 0 na cp 0 np=some ⟨(ckT t0 g1 g2 ca na cp np).1,(ckT t0 g1 g2 ca na cp np).2.1,(ckT t0 g1 g2 ca na cp np).2.2⟩:=by
  unfold F21 rt21 ckT
  simp only [RT.val,(F61_of _).1,(F61_of _).2,(F62_of _ _ _).1,(F62_of _ _ _).2,Int.ofNat_eq_natCast,cond_true]
  by_cases h1:5<na
  · have i1:(5:Int)<(na:Int):=by omega
    rw [if_pos h1]
    simp only [i1,decide_true,cond_true]
  have i1:¬(5:Int)<(na:Int):=by omega
  by_cases h2:60<np
  · have i2:(60:Int)<(np:Int):=by omega
    rw [if_neg h1,if_pos h2]
    simp only [i1,i2,decide_true,decide_false,cond_true,cond_false]
  have i2:¬(60:Int)<(np:Int):=by omega
  rw [if_neg h1,if_neg h2]
  simp only [i1,i2,decide_false,cond_false]
  cases inB t0 0 100000 with
  | false=>rfl
  | true =>
  cases inB g1 1 1000000 with
  | false=>rfl
  | true =>
  cases inB g2 1 1000000 with
  | false=>rfl
  | true =>
  simp only [Bool.not_true,Bool.and_self,cond_true,cond_false,if_true]
  have z1:¬(na:Int)<(na:Int):=by omega
  have z2:¬(np:Int)<(np:Int):=by omega
  have l0:L21_0 (X21_0.mk 0 t0 g1 g2 ca 0 na cp 0 np)=some (match fst1 (trK ca) na 0 with | some (i,r)=>.k0 2 (i:Int) r t0 g1 g2 ca 0 na cp 0 np | none=>.k1 t0 g1 g2 ca 0 na cp 0 np) :=
    loop_fst (rd:=rd21_0) (S:=fun k=>X21_0.mk (k:Int) t0 g1 g2 ca 0 na cp 0 np) (E:=trK ca) (n:=na) (err:=fun i r=>.k0 2 (i:Int) r t0 g1 g2 ca 0 na cp 0 np) (fin:=.k1 t0 g1 g2 ca 0 na cp 0 np) (fun k hk=>step21_0 ga (by omega) k hk)
      (by simp only [rd21_0,RT.val,z1,Int.ofNat_eq_natCast,decide_false,cond_false]) na 0 (by omega)
  cases hf:fst1 (trK ca) na 0 with
  | some p =>
    obtain ⟨i,r⟩:=p
    rw [hf]at l0
    simp only [L21_0_k0,Qo0,Qo1,Qo2,l0,cond_true]
  | none =>
  rw [hf]at l0
  simp only [L21_0_k0,L21_0_k1,Qp0,Qp1,Qp2,Qp3,Qp4,Qp5,Qp6,Qp7,Qp8,l0,cond_true,cond_false]
  have l1:L21_1 (X21_1.mk 0 t0 g1 g2 ca 0 na cp 0 np)=some (match fst1 (plK (IntKind.wrap .i64 ((na:Int)-1)) t0 cp) np 0 with | some (i,r)=>.k0 3 (i:Int) r t0 g1 g2 ca 0 na cp 0 np | none=>.k1 t0 g1 g2 ca 0 na cp 0 np) :=
    loop_fst (rd:=rd21_1) (S:=fun k=>X21_1.mk (k:Int) t0 g1 g2 ca 0 na cp 0 np) (E:=plK (IntKind.wrap .i64 ((na:Int)-1)) t0 cp) (n:=np) (err:=fun i r=>.k0 3 (i:Int) r t0 g1 g2 ca 0 na cp 0 np) (fin:=.k1 t0 g1 g2 ca 0 na cp 0 np) (fun k hk=>step21_1 gp (by omega) k hk)
      (by simp only [rd21_1,RT.val,z2,Int.ofNat_eq_natCast,decide_false,cond_false]) np 0 (by omega)
  cases hf2:fst1 (plK (IntKind.wrap .i64 ((na:Int)-1)) t0 cp) np 0 with
  | some p =>
    obtain ⟨i,r⟩:=p
    rw [hf2]at l1
    simp only [L21_1_k0,Qq0,Qq1,Qq2,l1,cond_true]
  | none =>
    rw [hf2]at l1
    simp only [L21_1_k0,L21_1_k1,l1,cond_true,cond_false]
end
theorem true3:True3:=by
  intro t0 g1 g2 ca na cp np h1 h2
  have p:=F20_eq (t0:=t0) (g1:=g1) (g2:=g2) h1 h2
  have q:=F21_eq (t0:=t0) (g1:=g1) (g2:=g2) h1 h2
  have o1:F20_ok t0 g1 g2 ca 0 na cp 0 np=true:=by simp only [F20_ok,p];rfl
  have o2:F21_ok t0 g1 g2 ca 0 na cp 0 np=true:=by simp only [F21_ok,q];rfl
  unfold rt3
  simp only [RT.val,o1,o2,F20_0,F20_1,F20_2,F21_0,F21_1,F21_2,p,q,decide_true,cond_true]
theorem trackChecksProved:Rows.TrackChecksSaid:=said3 true3
end
end Go.Proofs.Ytmppkpdoonljpaa
