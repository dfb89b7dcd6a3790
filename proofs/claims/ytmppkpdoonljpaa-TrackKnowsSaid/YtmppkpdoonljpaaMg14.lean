/- TrackKnows proved: Width, Known and Reach of track return what the document says, for any task and numbers. Conditions: none. -/
import Derived.Test.YtmppkpdoonljpaaMg9
import Derived.Test.YtmppkpdoonljpaaMg13
set_option linter.unusedVariables false
set_option linter.unusedSimpArgs false
namespace Go.Proofs.Ytmppkpdoonljpaa
open Go.ChangeShapes Go.WideShapes Go.ChangeAt Go.RowKit Go.Gi
def True4:Prop:=∀(t0 g1 g2:Int) (ca:Array Value) (na:Nat) (cp:Array Value) (np:Nat) (x y z:Int),GL S6 6 ca na→GL I5 5 cp np→(rt4 t0 g1 g2 ca 0 na cp 0 np x y z).val=some ⟨true⟩
theorem law4 (hm:True4) {ca cp:Array Value}{na np:Nat}{t0 g1 g2 x y z:Int}(h1:GL S6 6 ca na) (h2:GL I5 5 cp np) :
    Fact Try.prog (.call 4 ⟨[(.agg ⟨[.int .i64 t0,.int .i64 g1,.int .i64 g2,lstV ca 0 na 6,lstV cp 0 np 5]⟩),(.agg ⟨[.int .i64 x,.int .i64 y,.int .i64 z]⟩)]⟩ ⟨[],0,[]⟩) (.ret (.bool true) ⟨[],0,[]⟩):=by
  have hv:=hm t0 g1 g2 ca na cp np x y z h1 h2
  refine known4 _ (alt4 ⟨t0,g1,g2,ca,0,na,cp,0,np,x,y,z⟩ ⟨[],0,[]⟩) _ rfl ?_
  have e1:F4 t0 g1 g2 ca 0 na cp 0 np x y z=some ⟨true⟩:=hv
  have k0:F4_ok t0 g1 g2 ca 0 na cp 0 np x y z=true:=by unfold F4_ok;rw [e1];rfl
  have k1:F4_0 t0 g1 g2 ca 0 na cp 0 np x y z=true:=by
    show (match F4 t0 g1 g2 ca 0 na cp 0 np x y z with | some r=>r.r0 | none=>false)=true
    rw [e1]
  simp only [alt4,k0,k1,AT.out,cond_true]
set_option maxRecDepth 100000 in
theorem tyB31:tyB Try.prog 20 31=true:=by kernel_rfl
set_option maxRecDepth 100000 in
theorem numArg {H:Type}{enc:TypeId×Value→H}{w:World}{r:Reach}{b0:Nat}{v:Value}{dd:DataW H}{p:List MemPlace}(hval:Value.okWide Try.prog w r b0 31 v) (h:DataW.Trod enc Try.prog w 0 (fun _=>true) true 31 v dd p):∃x y z,VR (zAll w) (.agg ⟨[.int .i64 x,.int .i64 y,.int .i64 z]⟩) v:=by
  obtain ⟨abs,h1,h2⟩:=argA Try.underlying31 tyB31 hval h
  obtain ⟨x,y,z,rfl,_⟩:=tyA3 Try.underlying31 Try.underlying3 h2
  exact ⟨x,y,z,h1⟩
set_option maxRecDepth 100000 in
theorem lifted4 (hm:True4)(os:Os)(started:os.Started)(H:Type)(enc:TypeId×Value→H) :
    ReturnsInHanded {} Try.checked os 4 .any (Rows.trackKnowsSpec.pre6 enc Try.prog Try.f4 Rows.trackKnowsRow.domain false) (Rows.trackKnowsSpec.post enc Try.prog Try.f4 false true false false):=by
  refine returnsInHanded_of_change (C:=Try.checked) own started (by kernel_rfl) Try.func4
    (ChangeSpec.witness6 (enc:=enc) (C:=Try.checked) false ⟨#[],#[.agg #[.int .i64 0,.int .i64 0,.int .i64 0,.slice none 0 0,.slice none 0 0],.agg #[.int .i64 0,.int .i64 0,.int .i64 0]],[]⟩ 20 (by kernel_rfl) (by kernel_rfl) (by kernel_rfl) (by kernel_rfl)) ?_
  intro W base args ds gs before hval0 hW hcnd _
  have hval:∀(j:Nat) t v,Try.f4.params[j]?=some t→args[j]?=some v→Value.okWide Try.prog W .any base t v:=hval0
  have hW':=hW
  obtain ⟨p,q,hA0,hV,rfl,hfz,hnd⟩:=hW
  have hA:DataW.TrodAll enc Try.prog W 0 (fun _=>true) true Try.f4.params.toList args.toList ds p:=hA0
  rw [Try.params4]at hA hval
  obtain ⟨v0,vs0,d0,ds0,p0,q0,hargs,rfl,rfl,h0,r0⟩:=trodAll_cons hA
  obtain ⟨v1,vs1,d1,ds1,p1,q1,rfl,rfl,rfl,h1,r1⟩:=trodAll_cons r0
  obtain ⟨rfl,rfl,rfl⟩:=trodAll_nil r1
  obtain rfl:args=#[v0,v1]:=by cases args;simp_all
  obtain ⟨rfl,rfl⟩:=trodVars_none hV
  have k0:=h0
  have k1:=h1
  have lt0:∀x∈p0,x.block<W.heap.size:=by obtain ⟨m,hm⟩:=k0;exact DataW.trod_lt m _ _ _ hm
  have lt1:∀x∈p1,x.block<W.heap.size:=by obtain ⟨m,hm⟩:=k1;exact DataW.trod_lt m _ _ _ hm
  obtain ⟨abs,u0,t0,g1,g2,ca,na,cp,np,rfl,l1,l2⟩:=tskArg (hval 0 25 v0 rfl rfl) h0
  obtain ⟨x,y,z,u1⟩:=numArg (hval 1 31 v1 rfl rfl) h1
  clear hA0 hval0
  refine (calls_frozen (law4 hm (t0:=t0) (g1:=g1) (g2:=g2) (x:=x) (y:=y) (z:=z) l1 l2) rfl (((VRs.nil _).push u0).push u1)).mono fun e W' ⟨he,bel⟩=>?_
  subst he
  exact ⟨_,rfl,_,_,_,[],_,[],hW',trodAll_mk1 (shut_bool Try.underlying4 _),(trodAll_cons_mk (Below.trod laidOut (by kernel_rfl) (of_decide_eq_true (by kernel_rfl)) k0 bel lt0) (trodAll_cons_mk (Below.trod laidOut (by kernel_rfl) (of_decide_eq_true (by kernel_rfl)) k1 bel lt1) trodAll_mk0)),rfl,bel.frame _,fun h=>by cases h⟩
theorem over4 (hm:True4):Rows.trackKnowsRow.holds Try.pinned (OpenSpec.ofChange Rows.trackKnowsSpec) :=
  OpenClaim.holds_of_wide 4 Try.f4 rfl rfl rfl rfl rfl rfl rfl ⟨rfl,rfl,rfl,rfl,rfl⟩ rfl rfl rfl rfl rfl (by kernel_rfl) Try.func4 (by kernel_rfl)
    (of_decide_eq_true (by kernel_rfl)) (by unfold Func.isWrapper;first | (rw [if_pos (by decide +kernel)];kernel_rfl) | (rw [if_neg (by decide +kernel)];exact ⟨rfl,rfl⟩))
    (fun os started H enc _=>lifted4 hm os started H enc)
theorem said4 (hm:True4):Rows.TrackKnowsSaid:=over4 hm
end Go.Proofs.Ytmppkpdoonljpaa
namespace Go.Proofs.Ytmppkpdoonljpaa
open Go.Gi Go.RowKit
noncomputable section
set_option maxRecDepth 100000
set_option maxHeartbeats 1000000
section
variable {ca cp:Array Value}{na np k:Nat}{t0 g1 g2:Int}
theorem F59_of (g:GL S6 6 ca na)(few:na≤1000)(hkn:k<na):F59_ok (getStr ca (0+k*6)) (getInt ca (0+k*6+1)) (getInt ca (0+k*6+1+1)) (getInt ca (0+k*6+1+1+1)) (getInt ca (0+k*6+1+1+1+1)) (getInt ca (0+k*6+1+1+1+1+1)) ca 0 k=true ∧
    F59_0 (getStr ca (0+k*6)) (getInt ca (0+k*6+1)) (getInt ca (0+k*6+1+1)) (getInt ca (0+k*6+1+1+1)) (getInt ca (0+k*6+1+1+1+1)) (getInt ca (0+k*6+1+1+1+1+1)) ca 0 k=trK ca k:=by
  have q:F59 (getStr ca (0+k*6)) (getInt ca (0+k*6+1)) (getInt ca (0+k*6+1+1)) (getInt ca (0+k*6+1+1+1)) (getInt ca (0+k*6+1+1+1+1)) (getInt ca (0+k*6+1+1+1+1+1)) ca 0 k=some ⟨trK ca k⟩:=by
    unfold trK trN
    generalize getStr ca (0+k*6)=s
    generalize getInt ca (0+k*6+1)=a1
    generalize getInt ca (0+k*6+1+1)=a2
    generalize getInt ca (0+k*6+1+1+1)=a3
    generalize getInt ca (0+k*6+1+1+1+1)=a4
    generalize getInt ca (0+k*6+1+1+1+1+1)=a5
    have i2:¬(k:Int)<(k:Int):=by omega
    have l:L59_0 (X59_0.mk ca 0 k (k:Int) 0 s a1 a2 a3 a4 a5)=some (match fst1 (twE ca s) k 0 with | some (i,r)=>.k0 5 s a1 a2 a3 a4 a5 | none=>.k1 s a1 a2 a3 a4 a5) :=
      loop_fst (rd:=rd59_0) (S:=fun j=>X59_0.mk ca 0 k (k:Int) (j:Int) s a1 a2 a3 a4 a5) (E:=twE ca s) (n:=k) (err:=fun _ _=>.k0 5 s a1 a2 a3 a4 a5) (fin:=.k1 s a1 a2 a3 a4 a5) (fun j hj=>step59 g few (by omega) j hj)
        (by simp only [rd59_0,RT.val,i2,decide_false,cond_false]) k 0 (by omega)
    unfold F59 rt59
    simp only [RT.val,F96_of.1,F96_of.2,Int.ofNat_eq_natCast,cond_true]
    cases nmB s with
    | false=>rfl
    | true =>
      cases hf:fst1 (twE ca s) k 0 with
      | some p =>
        rw [hf]at l
        simp only [L59_0_k0,Qc0,l,Option.isSome_some,Bool.not_true,cond_true,cond_false,if_true]
      | none =>
        rw [hf]at l
        simp only [L59_0_k0,L59_0_k1,Qd0,Qd1,Qd2,Qd3,Qd4,Qd5,l,Option.isSome_none,(F58_of _ _ _).1,(F58_of _ _ _).2,(F97_of _).1,(F97_of _).2,Bool.not_true,cond_true,cond_false,if_true,Bool.false_eq_true,if_false]
        cases inB a1 (-100000000) 100000000<;>cases inB a2 (-100000000) 100000000<;>cases inB a3 0 10000000<;>cases inB a4 0 10000<;>cases inB a5 0 600<;>rfl
  exact ⟨by simp only [F59_ok,q];rfl,by simp only [F59_0,q]⟩
theorem F63_of (g:GL S6 6 ca na)(few:na≤1000)(hkn:k<na):F63_ok t0 g1 g2 ca 0 na cp 0 np (k:Int)=true∧F63_0 t0 g1 g2 ca 0 na cp 0 np (k:Int)=trK ca k:=by
  have hki:(k:Int)<(na:Int):=by omega
  have h0:(0:Int)≤(k:Int):=by omega
  have hr:rdOk ca S6 (0+k*6)=true:=srow6 g hkn
  unfold S6 at hr
  have q:F63 t0 g1 g2 ca 0 na cp 0 np (k:Int)=some ⟨trK ca k⟩:=by
    unfold F63 rt63 trK trN
    simp only [RT.val,hki,h0,hr,F99_of.1,F99_of.2,Int.toNat_natCast,Int.ofNat_eq_natCast,decide_true,Bool.and_self,cond_true]
    generalize getStr ca (0+k*6)=s
    generalize getInt ca (0+k*6+1)=a1
    generalize getInt ca (0+k*6+1+1)=a2
    generalize getInt ca (0+k*6+1+1+1)=a3
    generalize getInt ca (0+k*6+1+1+1+1)=a4
    generalize getInt ca (0+k*6+1+1+1+1+1)=a5
    have i2:¬(k:Int)<(k:Int):=by omega
    have l:L63_0 (X63_0.mk (k:Int) 0 t0 g1 g2 ca 0 na cp 0 np s a1 a2 a3 a4 a5)=some (match fst1 (twE ca s) k 0 with | some (i,r)=>.k0 5 t0 g1 g2 ca 0 na cp 0 np s a1 a2 a3 a4 a5 | none=>.k1 t0 g1 g2 ca 0 na cp 0 np s a1 a2 a3 a4 a5) :=
      loop_fst (rd:=rd63_0) (S:=fun j=>X63_0.mk (k:Int) (j:Int) t0 g1 g2 ca 0 na cp 0 np s a1 a2 a3 a4 a5) (E:=twE ca s) (n:=k) (err:=fun _ _=>.k0 5 t0 g1 g2 ca 0 na cp 0 np s a1 a2 a3 a4 a5) (fin:=.k1 t0 g1 g2 ca 0 na cp 0 np s a1 a2 a3 a4 a5) (fun j hj=>step63 g few hkn j hj)
        (by simp only [rd63_0,RT.val,i2,decide_false,cond_false]) k 0 (by omega)
    cases nmB s with
    | false=>rfl
    | true =>
      cases hf:fst1 (twE ca s) k 0 with
      | some p =>
        rw [hf]at l
        simp only [L63_0_k0,Qk0,l,Option.isSome_some,Bool.not_true,cond_true,cond_false,if_true]
      | none =>
        rw [hf]at l
        simp only [L63_0_k0,L63_0_k1,Ql0,Ql1,Ql2,Ql3,Ql4,Ql5,Ql6,Ql7,Ql8,Ql9,Ql10,Ql11,Ql12,Ql13,Ql14,l,Option.isSome_none,(F62_of _ _ _).1,(F62_of _ _ _).2,Bool.not_true,cond_true,cond_false,if_true,Bool.false_eq_true,if_false]
        cases inB a1 (-100000000) 100000000<;>cases inB a2 (-100000000) 100000000<;>cases inB a3 0 10000000<;>cases inB a4 0 10000<;>cases inB a5 0 600<;>rfl
  exact ⟨by simp only [F63_ok,q];rfl,by simp only [F63_0,q]⟩
theorem F60_of (g:GL I5 5 cp np)(few:np≤1000)(hkn:k<np):F60_ok t0 g1 g2 ca 0 na cp 0 np (k:Int)=true∧F60_0 t0 g1 g2 ca 0 na cp 0 np (k:Int)=plK (IntKind.wrap .i64 ((na:Int)-1)) t0 cp k:=by
  have hki:(k:Int)<(np:Int):=by omega
  have h0:(0:Int)≤(k:Int):=by omega
  have h4:(0:Nat)≤k:=by omega
  have h5:k≤np:=by omega
  have hr:rdOk cp I5 (0+k*5)=true:=row5 g hkn
  unfold I5 at hr
  have q:F60 t0 g1 g2 ca 0 na cp 0 np (k:Int)=some ⟨plK (IntKind.wrap .i64 ((na:Int)-1)) t0 cp k⟩:=by
    unfold F60 rt60 plK
    simp only [RT.val,hki,h0,h4,h5,hr,(F58_of _ _ _).1,(F58_of _ _ _).2,(F98_of _).1,(F98_of _).2,Int.toNat_natCast,Int.ofNat_eq_natCast,Nat.add_zero,Nat.sub_zero,decide_true,Bool.and_self,Bool.true_and,cond_true]
    generalize getInt cp (0+k*5)=a1
    generalize getInt cp (0+k*5+1)=a2
    generalize getInt cp (0+k*5+1+1)=a3
    generalize getInt cp (0+k*5+1+1+1)=a4
    generalize getInt cp (0+k*5+1+1+1+1)=a5
    generalize IntKind.wrap .i64 ((na:Int)-1)=w
    have i2:¬(k:Int)<(k:Int):=by omega
    have l:L60_0 (X60_0.mk cp 0 k (k:Int) 0 t0 g1 g2 ca 0 na cp 0 np a1 a2 a3 a4 a5)=some (match fst1 (dbE cp a1 a2) k 0 with | some (i,r)=>.k0 5 t0 g1 g2 ca 0 na cp 0 np a1 a2 a3 a4 a5 | none=>.k1 t0 g1 g2 ca 0 na cp 0 np a1 a2 a3 a4 a5) :=
      loop_fst (rd:=rd60_0) (S:=fun j=>X60_0.mk cp 0 k (k:Int) (j:Int) t0 g1 g2 ca 0 na cp 0 np a1 a2 a3 a4 a5) (E:=dbE cp a1 a2) (n:=k) (err:=fun _ _=>.k0 5 t0 g1 g2 ca 0 na cp 0 np a1 a2 a3 a4 a5) (fin:=.k1 t0 g1 g2 ca 0 na cp 0 np a1 a2 a3 a4 a5) (fun j hj=>step60 g few (by omega) j hj)
        (by simp only [rd60_0,RT.val,i2,decide_false,cond_false]) k 0 (by omega)
    cases hf:fst1 (dbE cp a1 a2) k 0 with
    | some p =>
      rw [hf]at l
      simp only [L60_0_k0,Qe0,l,Option.isSome_some,cond_true,if_true]
      cases inB a1 0 w<;>cases inB a2 t0 100000<;>cases inB a3 (-2000000000) 2000000000<;>cases inB a4 (-2000000000) 2000000000<;>cases inB a5 (-2000000000) 2000000000<;>rfl
    | none =>
      rw [hf]at l
      simp only [L60_0_k0,L60_0_k1,l,Option.isSome_none,cond_true,cond_false,if_true,Bool.false_eq_true,if_false]
      cases inB a1 0 w<;>cases inB a2 t0 100000<;>cases inB a3 (-2000000000) 2000000000<;>cases inB a4 (-2000000000) 2000000000<;>cases inB a5 (-2000000000) 2000000000<;>rfl
  exact ⟨by simp only [F60_ok,q];rfl,by simp only [F60_0,q]⟩
theorem F64_of (g:GL I5 5 cp np)(few:np≤1000)(hkn:k<np):F64_ok t0 g1 g2 ca 0 na cp 0 np (k:Int)=true∧F64_0 t0 g1 g2 ca 0 na cp 0 np (k:Int)=plK (IntKind.wrap .i64 ((na:Int)-1)) t0 cp k:=by
  have hki:(k:Int)<(np:Int):=by omega
  have h0:(0:Int)≤(k:Int):=by omega
  have hr:rdOk cp I5 (0+k*5)=true:=row5 g hkn
  unfold I5 at hr
  have q:F64 t0 g1 g2 ca 0 na cp 0 np (k:Int)=some ⟨plK (IntKind.wrap .i64 ((na:Int)-1)) t0 cp k⟩:=by
    unfold F64 rt64 plK
    simp only [RT.val,hki,h0,hr,(F62_of _ _ _).1,(F62_of _ _ _).2,Int.toNat_natCast,Int.ofNat_eq_natCast,decide_true,Bool.and_self,cond_true]
    generalize getInt cp (0+k*5)=a1
    generalize getInt cp (0+k*5+1)=a2
    generalize getInt cp (0+k*5+1+1)=a3
    generalize getInt cp (0+k*5+1+1+1)=a4
    generalize getInt cp (0+k*5+1+1+1+1)=a5
    generalize IntKind.wrap .i64 ((na:Int)-1)=w
    have i2:¬(k:Int)<(k:Int):=by omega
    have l:L64_0 (X64_0.mk (k:Int) 0 t0 g1 g2 ca 0 na cp 0 np a1 a2 a3 a4 a5)=some (match fst1 (dbE cp a1 a2) k 0 with | some (i,r)=>.k0 5 t0 g1 g2 ca 0 na cp 0 np a1 a2 a3 a4 a5 | none=>.k1 t0 g1 g2 ca 0 na cp 0 np a1 a2 a3 a4 a5) :=
      loop_fst (rd:=rd64_0) (S:=fun j=>X64_0.mk (k:Int) (j:Int) t0 g1 g2 ca 0 na cp 0 np a1 a2 a3 a4 a5) (E:=dbE cp a1 a2) (n:=k) (err:=fun _ _=>.k0 5 t0 g1 g2 ca 0 na cp 0 np a1 a2 a3 a4 a5) (fin:=.k1 t0 g1 g2 ca 0 na cp 0 np a1 a2 a3 a4 a5) (fun j hj=>step64 g few hkn j hj)
        (by simp only [rd64_0,RT.val,i2,decide_false,cond_false]) k 0 (by omega)
    cases hf:fst1 (dbE cp a1 a2) k 0 with
    | some p =>
      rw [hf]at l
      simp only [L64_0_k0,Qm0,l,Option.isSome_some,cond_true,if_true]
      cases inB a1 0 w<;>cases inB a2 t0 100000<;>cases inB a3 (-2000000000) 2000000000<;>cases inB a4 (-2000000000) 2000000000<;>cases inB a5 (-2000000000) 2000000000<;>rfl
    | none =>
      rw [hf]at l
      simp only [L64_0_k0,L64_0_k1,l,Option.isSome_none,cond_true,cond_false,if_true,Bool.false_eq_true,if_false]
      cases inB a1 0 w<;>cases inB a2 t0 100000<;>cases inB a3 (-2000000000) 2000000000<;>cases inB a4 (-2000000000) 2000000000<;>cases inB a5 (-2000000000) 2000000000<;>rfl
  exact ⟨by simp only [F64_ok,q];rfl,by simp only [F64_0,q]⟩
end
def ckT (t0 g1 g2:Int)(ca:Array Value)(na:Nat)(cp:Array Value)(np:Nat):Int×Int×Int :=
  if 5<na then (1,0,3) else if 60<np then (1,0,3) else
  if (inB t0 0 100000&&(inB g1 1 1000000&&inB g2 1 1000000))=true then
    (match fst1 (trK ca) na 0 with
      | some (i,r)=>(2,(i:Int),r)
      | none=>match fst1 (plK (IntKind.wrap .i64 ((na:Int)-1)) t0 cp) np 0 with
        | some (i,r)=>(3,(i:Int),r)
        | none=>(0,0,0))
  else (1,0,7)
section
variable {ca cp:Array Value}{na np k:Nat}{t0 g1 g2:Int}
theorem step20_0 (g:GL S6 6 ca na)(few:na≤1000)(k:Nat)(hk:k<na):(rd20_0 ⟨ca,0,na,(na:Int),(k:Int),t0,g1,g2,ca,0,na,cp,0,np⟩).val =
    some (if trK ca k=0 then .inl ⟨ca,0,na,(na:Int),((k+1:Nat):Int),t0,g1,g2,ca,0,na,cp,0,np⟩ else .inr (.k0 2 (k:Int) (trK ca k) t0 g1 g2 ca 0 na cp 0 np)):=by
  have hki:(k:Int)<(na:Int):=by omega
  have h0:(0:Int)≤(k:Int):=by omega
  have h4:(0:Nat)≤k:=by omega
  have h5:k≤na:=by omega
  have h3:IntKind.wrap .i64 ((k:Int)+1)=((k+1:Nat):Int):=by rw [wrap64_id (by omega) (by omega)];omega
  have hr:rdOk ca S6 (0+k*6)=true:=srow6 g hk
  unfold S6 at hr
  obtain ⟨o,e⟩:=F59_of g few hk
  simp only [rd20_0,RT.val,hki,h0,h3,h4,h5,hr,o,e,Int.toNat_natCast,Int.ofNat_eq_natCast,Nat.add_zero,Nat.sub_zero,decide_true,Bool.and_self,Bool.true_and,cond_true]
  by_cases hz:trK ca k=0
  · simp only [hz,decide_true,Bool.not_true,cond_false,if_true]
  · simp only [hz,decide_false,Bool.not_false,cond_true,if_false]
theorem step21_0 (g:GL S6 6 ca na)(few:na≤1000)(k:Nat)(hk:k<na):(rd21_0 ⟨(k:Int),t0,g1,g2,ca,0,na,cp,0,np⟩).val =
    some (if trK ca k=0 then .inl ⟨((k+1:Nat):Int),t0,g1,g2,ca,0,na,cp,0,np⟩ else .inr (.k0 2 (k:Int) (trK ca k) t0 g1 g2 ca 0 na cp 0 np)):=by
  have hki:(k:Int)<(na:Int):=by omega
  have h3:IntKind.wrap .i64 ((k:Int)+1)=((k+1:Nat):Int):=by rw [wrap64_id (by omega) (by omega)];omega
  obtain ⟨o,e⟩:=F63_of (t0:=t0) (g1:=g1) (g2:=g2) (cp:=cp) (np:=np) g few hk
  simp only [rd21_0,RT.val,hki,h3,o,e,Int.ofNat_eq_natCast,decide_true,cond_true]
  by_cases hz:trK ca k=0
  · simp only [hz,decide_true,Bool.not_true,cond_false,if_true]
  · simp only [hz,decide_false,Bool.not_false,cond_true,if_false]
theorem step20_1 (g:GL I5 5 cp np)(few:np≤1000)(k:Nat)(hk:k<np):(rd20_1 ⟨(np:Int),(k:Int),t0,g1,g2,ca,0,na,cp,0,np⟩).val =
    some (if plK (IntKind.wrap .i64 ((na:Int)-1)) t0 cp k=0 then .inl ⟨(np:Int),((k+1:Nat):Int),t0,g1,g2,ca,0,na,cp,0,np⟩ else .inr (.k0 3 (k:Int) (plK (IntKind.wrap .i64 ((na:Int)-1)) t0 cp k) t0 g1 g2 ca 0 na cp 0 np)):=by
  have hki:(k:Int)<(np:Int):=by omega
  have h3:IntKind.wrap .i64 ((k:Int)+1)=((k+1:Nat):Int):=by rw [wrap64_id (by omega) (by omega)];omega
  obtain ⟨o,e⟩:=F60_of (t0:=t0) (g1:=g1) (g2:=g2) (ca:=ca) (na:=na) g few hk
  simp only [rd20_1,RT.val,hki,h3,o,e,Int.ofNat_eq_natCast,decide_true,cond_true]
  by_cases hz:plK (IntKind.wrap .i64 ((na:Int)-1)) t0 cp k=0
  · simp only [hz,decide_true,Bool.not_true,cond_false,if_true]
  · simp only [hz,decide_false,Bool.not_false,cond_true,if_false]
theorem step21_1 (g:GL I5 5 cp np)(few:np≤1000)(k:Nat)(hk:k<np):(rd21_1 ⟨(k:Int),t0,g1,g2,ca,0,na,cp,0,np⟩).val =
    some (if plK (IntKind.wrap .i64 ((na:Int)-1)) t0 cp k=0 then .inl ⟨((k+1:Nat):Int),t0,g1,g2,ca,0,na,cp,0,np⟩ else .inr (.k0 3 (k:Int) (plK (IntKind.wrap .i64 ((na:Int)-1)) t0 cp k) t0 g1 g2 ca 0 na cp 0 np)):=by
  have hki:(k:Int)<(np:Int):=by omega
  have h3:IntKind.wrap .i64 ((k:Int)+1)=((k+1:Nat):Int):=by rw [wrap64_id (by omega) (by omega)];omega
  obtain ⟨o,e⟩:=F64_of (t0:=t0) (g1:=g1) (g2:=g2) (ca:=ca) (na:=na) g few hk
  simp only [rd21_1,RT.val,hki,h3,o,e,Int.ofNat_eq_natCast,decide_true,cond_true]
  by_cases hz:plK (IntKind.wrap .i64 ((na:Int)-1)) t0 cp k=0
  · simp only [hz,decide_true,Bool.not_true,cond_false,if_true]
  · simp only [hz,decide_false,Bool.not_false,cond_true,if_false]
theorem F20_eq (ga:GL S6 6 ca na)(gp:GL I5 5 cp np):F20 t0 g1 g2 ca 0 na cp 0 np=some ⟨(ckT t0 g1 g2 ca na cp np).1,(ckT t0 g1 g2 ca na cp np).2.1,(ckT t0 g1 g2 ca na cp np).2.2⟩:=by
  unfold F20 rt20 ckT
  simp only [RT.val,(F57_of _).1,(F57_of _).2,(F58_of _ _ _).1,(F58_of _ _ _).2,Int.ofNat_eq_natCast,cond_true]
  by_cases h1:5<na
  · have i1:(5:Int)<(na:Int):=by omega
    rw [if_pos h1]
    simp only [i1,decide_true,cond_true]
  have i1:¬(5:Int)<(na:Int):=by omega
  by_cases h2:60<np
  · have i2:(60:Int)<(np:Int):=by omega
    rw [if_neg h1,if_pos h2]
    simp only [i1,i2,decide_true,decide_false,cond_true,cond_false]
  have i2:¬(60:Int)<(np:Int):=by omega
  rw [if_neg h1,if_neg h2]
  simp only [i1,i2,decide_false,cond_false]
  cases inB t0 0 100000 with
  | false=>rfl
  | true =>
  cases inB g1 1 1000000 with
  | false=>rfl
  | true =>
  cases inB g2 1 1000000 with
  | false=>rfl
  | true =>
  simp only [Bool.not_true,Bool.and_self,cond_true,cond_false,if_true]
  have z1:¬(na:Int)<(na:Int):=by omega
  have z2:¬(np:Int)<(np:Int):=by omega
  have l0:L20_0 (X20_0.mk ca 0 na (na:Int) 0 t0 g1 g2 ca 0 na cp 0 np)=some (match fst1 (trK ca) na 0 with | some (i,r)=>.k0 2 (i:Int) r t0 g1 g2 ca 0 na cp 0 np | none=>.k1 t0 g1 g2 ca 0 na cp 0 np) :=
    loop_fst (rd:=rd20_0) (S:=fun k=>X20_0.mk ca 0 na (na:Int) (k:Int) t0 g1 g2 ca 0 na cp 0 np) (E:=trK ca) (n:=na) (err:=fun i r=>.k0 2 (i:Int) r t0 g1 g2 ca 0 na cp 0 np) (fin:=.k1 t0 g1 g2 ca 0 na cp 0 np) (fun k hk=>step20_0 ga (by omega) k hk)
      (by simp only [rd20_0,RT.val,z1,decide_false,cond_false]) na 0 (by omega)
  cases hf:fst1 (trK ca) na 0 with
  | some p =>
    obtain ⟨i,r⟩:=p
    rw [hf]at l0
    simp only [L20_0_k0,Qg0,Qg1,Qg2,l0,cond_true]
  | none =>
  rw [hf]at l0
  simp only [L20_0_k0,L20_0_k1,Qh0,Qh1,Qh2,Qh3,Qh4,Qh5,Qh6,Qh7,Qh8,l0,cond_true,cond_false]
  have l1:L20_1 (X20_1.mk (np:Int) 0 t0 g1 g2 ca 0 na cp 0 np)=some (match fst1 (plK (IntKind.wrap .i64 ((na:Int)-1)) t0 cp) np 0 with | some (i,r)=>.k0 3 (i:Int) r t0 g1 g2 ca 0 na cp 0 np | none=>.k1 t0 g1 g2 ca 0 na cp 0 np) :=
    loop_fst (rd:=rd20_1) (S:=fun k=>X20_1.mk (np:Int) (k:Int) t0 g1 g2 ca 0 na cp 0 np) (E:=plK (IntKind.wrap .i64 ((na:Int)-1)) t0 cp) (n:=np) (err:=fun i r=>.k0 3 (i:Int) r t0 g1 g2 ca 0 na cp 0 np) (fin:=.k1 t0 g1 g2 ca 0 na cp 0 np) (fun k hk=>step20_1 gp (by omega) k hk)
      (by simp only [rd20_1,RT.val,z2,decide_false,cond_false]) np 0 (by omega)
  cases hf2:fst1 (plK (IntKind.wrap .i64 ((na:Int)-1)) t0 cp) np 0 with
  | some p =>
    obtain ⟨i,r⟩:=p
    rw [hf2]at l1
    simp only [L20_1_k0,Qi0,Qi1,Qi2,l1,cond_true]
  | none =>
    rw [hf2]at l1
    simp only [L20_1_k0,L20_1_k1,l1,cond_true,cond_false]
theorem F21_eq (ga:GL S6 6 ca na)(gp:GL I5 5 cp np):F21 t0 g1 g2 ca 0 na cp 0 np=some ⟨(ckT t0 g1 g2 ca na cp np).1,(ckT t0 g1 g2 ca na cp np).2.1,(ckT t0 g1 g2 ca na cp np).2.2⟩:=by
  unfold F21 rt21 ckT
  simp only [RT.val,(F61_of _).1,(F61_of _).2,(F62_of _ _ _).1,(F62_of _ _ _).2,Int.ofNat_eq_natCast,cond_true]
  by_cases h1:5<na
  · have i1:(5:Int)<(na:Int):=by omega
    rw [if_pos h1]
    simp only [i1,decide_true,cond_true]
  have i1:¬(5:Int)<(na:Int):=by omega
  by_cases h2:60<np
  · have i2:(60:Int)<(np:Int):=by omega
    rw [if_neg h1,if_pos h2]
    simp only [i1,i2,decide_true,decide_false,cond_true,cond_false]
  have i2:¬(60:Int)<(np:Int):=by omega
  rw [if_neg h1,if_neg h2]
  simp only [i1,i2,decide_false,cond_false]
  cases inB t0 0 100000 with
  | false=>rfl
  | true =>
  cases inB g1 1 1000000 with
  | false=>rfl
  | true =>
  cases inB g2 1 1000000 with
  | false=>rfl
  | true =>
  simp only [Bool.not_true,Bool.and_self,cond_true,cond_false,if_true]
  have z1:¬(na:Int)<(na:Int):=by omega
  have z2:¬(np:Int)<(np:Int):=by omega
  have l0:L21_0 (X21_0.mk 0 t0 g1 g2 ca 0 na cp 0 np)=some (match fst1 (trK ca) na 0 with | some (i,r)=>.k0 2 (i:Int) r t0 g1 g2 ca 0 na cp 0 np | none=>.k1 t0 g1 g2 ca 0 na cp 0 np) :=
    loop_fst (rd:=rd21_0) (S:=fun k=>X21_0.mk (k:Int) t0 g1 g2 ca 0 na cp 0 np) (E:=trK ca) (n:=na) (err:=fun i r=>.k0 2 (i:Int) r t0 g1 g2 ca 0 na cp 0 np) (fin:=.k1 t0 g1 g2 ca 0 na cp 0 np) (fun k hk=>step21_0 ga (by omega) k hk)
      (by simp only [rd21_0,RT.val,z1,Int.ofNat_eq_natCast,decide_false,cond_false]) na 0 (by omega)
  cases hf:fst1 (trK ca) na 0 with
  | some p =>
    obtain ⟨i,r⟩:=p
    rw [hf]at l0
    simp only [L21_0_k0,Qo0,Qo1,Qo2,l0,cond_true]
  | none =>
  rw [hf]at l0
  simp only [L21_0_k0,L21_0_k1,Qp0,Qp1,Qp2,Qp3,Qp4,Qp5,Qp6,Qp7,Qp8,l0,cond_true,cond_false]
  have l1:L21_1 (X21_1.mk 0 t0 g1 g2 ca 0 na cp 0 np)=some (match fst1 (plK (IntKind.wrap .i64 ((na:Int)-1)) t0 cp) np 0 with | some (i,r)=>.k0 3 (i:Int) r t0 g1 g2 ca 0 na cp 0 np | none=>.k1 t0 g1 g2 ca 0 na cp 0 np) :=
    loop_fst (rd:=rd21_1) (S:=fun k=>X21_1.mk (k:Int) t0 g1 g2 ca 0 na cp 0 np) (E:=plK (IntKind.wrap .i64 ((na:Int)-1)) t0 cp) (n:=np) (err:=fun i r=>.k0 3 (i:Int) r t0 g1 g2 ca 0 na cp 0 np) (fin:=.k1 t0 g1 g2 ca 0 na cp 0 np) (fun k hk=>step21_1 gp (by omega) k hk)
      (by simp only [rd21_1,RT.val,z2,Int.ofNat_eq_natCast,decide_false,cond_false]) np 0 (by omega)
  cases hf2:fst1 (plK (IntKind.wrap .i64 ((na:Int)-1)) t0 cp) np 0 with
  | some p =>
    obtain ⟨i,r⟩:=p
    rw [hf2]at l1
    simp only [L21_1_k0,Qq0,Qq1,Qq2,l1,cond_true]
  | none =>
    rw [hf2]at l1
    simp only [L21_1_k0,L21_1_k1,l1,cond_true,cond_false]
end
end
end Go.Proofs.Ytmppkpdoonljpaa
namespace Go.Proofs.Ytmppkpdoonljpaa
open Go.Gi Go.RowKit
noncomputable section
set_option maxRecDepth 100000
def arrI (L:List Int):Array Value:=⟨L.map (Value.int .i64)⟩
def encI (L:List Int):Option (Array Value×Nat):=match L with
  | []=>none
  | a::r=>some (arrI (a::r),(a::r).length)
theorem apB_arrI (L:List Int)(v:Int):apB (Array.extract (arrI L) 0 (0+(L.length*1))) ⟨[(Value.int .i64 v)]⟩=arrI (L++[v]):=by
  simp only [apB,arrI,Nat.zero_add,Nat.mul_one,List.extract_toArray,List.map_append,List.map_cons,List.map_nil]
  simp [List.take_of_length_le]
theorem allFz_arrI (L:List Int):allFz (arrI L)=true:=by
  simp only [allFz,arrI,List.all_map]
  exact List.all_eq_true.2 fun x _=>rfl
theorem size_arrI (L:List Int):(arrI L).size=L.length:=by simp [arrI]
theorem isInt_arrI (L:List Int) {i:Nat}(h:i<L.length):isInt .i64 (arrI L) (0+i)=true:=by
  simp [isInt,arrI,lget_eq,h]
theorem loop27 {c:Array Value}{o n:Nat}(hc:∀i,i<n→isInt .i64 c (o+i)=true) (hn:n≤maxLen):∀(k:Nat) (i:Nat),i+k=n →
    loopR rd27_0 ⟨c,o,n,c,o,n,(i:Int)⟩=some .k1
  | 0,i,h=>loopR_done (by
      have h1:¬((i:Int)<(n:Int)):=by omega
      simp [rd27_0,RT.val,h1])
  | k+1,i,h=>by
    refine (loopR_next (y:=⟨c,o,n,c,o,n,((i+1:Nat):Int)⟩) ?_).trans (loop27 hc hn k (i+1) (by omega))
    have h1:((i:Int)<(n:Int)):=by omega
    have h2:(0:Int)≤(i:Int):=by omega
    have hm:maxLen=9223372036854775807:=rfl
    have h3:IntKind.wrap .i64 ((i:Int)+1)=((i+1:Nat):Int):=by
      rw [wrap64_id (by omega) (by omega)];omega
    have h4:isInt .i64 c (o+i)=true:=hc i (by omega)
    simp [rd27_0,RT.val,h1,h2,h3,h4]
theorem ints_self {c:Array Value}{o n:Nat}(hc:∀i,i<n→isInt .i64 c (o+i)=true) (hn:n≤maxLen):(rt27 c o n c o n).val=some ⟨true⟩:=by
  have h:=loop27 hc hn n 0 (by omega)
  have h1:L27_0 ⟨c,o,n,c,o,n,0⟩=some .k1:=h
  simp [rt27,RT.val,eqCode_self,L27_0_k0,L27_0_k1,h1]
theorem F27_self {c:Array Value}{o n:Nat}(hc:∀i,i<n→isInt .i64 c (o+i)=true) (hn:n≤maxLen):F27_ok c o n c o n=true∧F27_0 c o n c o n=true:=by
  have h:F27 c o n c o n=some ⟨true⟩:=ints_self hc hn
  exact ⟨by simp [F27_ok,h],by simp [F27_0,h]⟩
end
end Go.Proofs.Ytmppkpdoonljpaa
namespace Go.Proofs.Ytmppkpdoonljpaa
open Go.Gi Go.RowKit
noncomputable section
set_option maxRecDepth 100000
set_option maxHeartbeats 1000000
theorem fst1_ne {E:Nat→Int}:∀{m k i:Nat}{r:Int},fst1 E m k=some (i,r)→r≠0
  | 0,k,i,r,h=>by cases h
  | m+1,k,i,r,h=>by
    unfold fst1 at h
    split at h
    · exact fst1_ne h
    · rename_i hk
      cases h
      exact hk
theorem fst1_none {E:Nat→Int}:∀{m k:Nat},fst1 E m k=none→∀j,k≤j→j<k+m→E j=0
  | 0,k,h,j,h1,h2=>by omega
  | m+1,k,h,j,h1,h2=>by
    unfold fst1 at h
    split at h
    · rename_i hk
      by_cases e:j=k
      · rw [e];exact hk
      · exact fst1_none h j (by omega) (by omega)
    · cases h
structure Vld (t0 g1 g2:Int) (ca:Array Value) (na:Nat) (cp:Array Value) (np:Nat):Prop where
  fa:na≤5
  fp:np≤60
  acc:1≤g2
  tr:∀k,k<na→trK ca k=0
  pl:∀k,k<np→plK (IntKind.wrap .i64 ((na:Int)-1)) t0 cp k=0
section
variable {ca cp:Array Value}{na np k:Nat}{t0 g1 g2:Int}
theorem vld (h:(ckT t0 g1 g2 ca na cp np).2.2=0):Vld t0 g1 g2 ca na cp np:=by
  unfold ckT at h
  by_cases h1:5<na
  · rw [if_pos h1]at h;cases h
  rw [if_neg h1]at h
  by_cases h2:60<np
  · rw [if_pos h2]at h;cases h
  rw [if_neg h2]at h
  by_cases h3:(inB t0 0 100000&&(inB g1 1 1000000&&inB g2 1 1000000))=true
  · rw [if_pos h3]at h
    cases hf:fst1 (trK ca) na 0 with
    | some p =>
      obtain ⟨i,r⟩:=p
      rw [hf]at h
      exact (fst1_ne hf h).elim
    | none =>
      rw [hf]at h
      cases hf2:fst1 (plK (IntKind.wrap .i64 ((na:Int)-1)) t0 cp) np 0 with
      | some p =>
        obtain ⟨i,r⟩:=p
        rw [hf2]at h
        exact (fst1_ne hf2 h).elim
      | none =>
        simp only [inB,Bool.and_eq_true,decide_eq_true_eq]at h3
        exact ⟨by omega,by omega,h3.2.2.1,fun k hk=>fst1_none hf k (by omega) (by omega),fun k hk=>fst1_none hf2 k (by omega) (by omega)⟩
  · rw [if_neg h3]at h;cases h
theorem tr_of (h:trK ca k=0):(-100000000≤getInt ca (0+k*6+1)∧getInt ca (0+k*6+1)≤100000000)∧(-100000000≤getInt ca (0+k*6+1+1)∧getInt ca (0+k*6+1+1)≤100000000) ∧
    (0≤getInt ca (0+k*6+1+1+1+1+1)∧getInt ca (0+k*6+1+1+1+1+1)≤600):=by
  unfold trK trN inB at h
  split at h
  · split at h
    · cases h
    · split at h
      · rename_i h3
        simp only [Bool.and_eq_true,decide_eq_true_eq]at h3
        omega
      · cases h
  · cases h
theorem pl_of {w:Int}(h:plK w t0 cp k=0):(0≤getInt cp (0+k*5)∧getInt cp (0+k*5)≤w)∧(t0≤getInt cp (0+k*5+1)∧getInt cp (0+k*5+1)≤100000) ∧
    (-2000000000≤getInt cp (0+k*5+1+1)∧getInt cp (0+k*5+1+1)≤2000000000)∧(-2000000000≤getInt cp (0+k*5+1+1+1)∧getInt cp (0+k*5+1+1+1)≤2000000000) ∧
    (-2000000000≤getInt cp (0+k*5+1+1+1+1)∧getInt cp (0+k*5+1+1+1+1)≤2000000000):=by
  unfold plK inB at h
  split at h
  · rename_i h1
    split at h
    · rename_i h2
      simp only [Bool.and_eq_true,decide_eq_true_eq]at h1 h2
      omega
    · cases h
  · cases h
theorem Vld.src (v:Vld t0 g1 g2 ca na cp np)(hk:k<np):0≤getInt cp (0+k*5)∧getInt cp (0+k*5)<(na:Int):=by
  have h:=(pl_of (v.pl k hk)).1
  have:=v.fa
  rw [wrap64_id (by omega) (by omega)]at h
  omega
theorem F100_of (a b:Int):F100_0 a b=max (IntKind.wrap .i64 (a-b)) (IntKind.wrap .i64 (b-a)):=rfl
theorem F101_of (a:Int):F101_0 a 1000000=IntKind.wrap .i64 (Int.tdiv (IntKind.wrap .i64 ((IntKind.wrap .i64 (a+1000000))-1)) 1000000):=rfl
theorem dist_of {a b:Int}(ha:-2000000000≤a∧a≤2000000000) (hb:-100000000≤b∧b≤100000000):max (IntKind.wrap .i64 (a-b)) (IntKind.wrap .i64 (b-a))=max (IntKind.wrap .i64 (a-b)) (IntKind.wrap .i64 (0-IntKind.wrap .i64 (a-b))):=by
  have e1:IntKind.wrap .i64 (a-b)=a-b:=wrap64_id (by omega) (by omega)
  have e2:IntKind.wrap .i64 (b-a)=b-a:=wrap64_id (by omega) (by omega)
  have e3:IntKind.wrap .i64 (0-(a-b))=0-(a-b):=wrap64_id (by omega) (by omega)
  rw [e1,e2,e3]
  congr 1
  omega
theorem dist0_of {a:Int}(ha:-2000000000≤a∧a≤2000000000):max (IntKind.wrap .i64 (a-0)) (IntKind.wrap .i64 (0-a))=max a (IntKind.wrap .i64 (0-a)):=by
  have e1:IntKind.wrap .i64 (a-0)=a:=by rw [Int.sub_zero];exact wrap64_id (by omega) (by omega)
  rw [e1]
theorem width (v:Vld t0 g1 g2 ca na cp np)(ga:GL S6 6 ca na)(gp:GL I5 5 cp np)(hk:k<np) :
    ∃W,F66 t0 g1 g2 ca 0 na cp 0 np (k:Int)=some ⟨W⟩∧F68 t0 g1 g2 ca 0 na cp 0 np (k:Int)=some ⟨W⟩:=by
  have hki:(k:Int)<(np:Int):=by omega
  have h0:(0:Int)≤(k:Int):=by omega
  have hs:=v.src hk
  obtain ⟨_,_,px,py,pz⟩:=pl_of (v.pl k hk)
  obtain ⟨tx,ty,_⟩:=tr_of (v.tr (getInt cp (0+k*5)).toNat (by omega))
  have hr:rdOk cp I5 (0+k*5)=true:=row5 gp hk
  have hr2:rdOk ca S6 (0+(getInt cp (0+k*5)).toNat*6)=true:=srow6 ga (by omega)
  unfold I5 at hr
  unfold S6 at hr2
  have d1:=dist_of px tx
  have d2:=dist_of py ty
  have d3:=dist0_of pz
  have z:F66 t0 g1 g2 ca 0 na cp 0 np (k:Int)=(F68 t0 g1 g2 ca 0 na cp 0 np (k:Int)).map (fun r=>(⟨r.r0⟩:R66)):=by
    unfold F66 rt66 F68 rt68
    simp only [RT.val,hki,h0,hs.1,hs.2,hr,hr2,Int.toNat_natCast,Int.ofNat_eq_natCast,decide_true,Bool.and_self,cond_true,F101_of,F100_of,d1,d2,d3,Option.map_some]
  have s:(F68 t0 g1 g2 ca 0 na cp 0 np (k:Int)).isSome=true:=by
    unfold F68 rt68
    simp only [RT.val,hki,h0,hs.1,hs.2,hr,hr2,Int.toNat_natCast,Int.ofNat_eq_natCast,decide_true,Bool.and_self,cond_true]
    rfl
  obtain ⟨r,e⟩:=Option.isSome_iff_exists.1 s
  rw [e]at z
  exact ⟨r.r0,z,e⟩
theorem F20_all (ga:GL S6 6 ca na)(gp:GL I5 5 cp np):F20_ok t0 g1 g2 ca 0 na cp 0 np=true∧F20_2 t0 g1 g2 ca 0 na cp 0 np=(ckT t0 g1 g2 ca na cp np).2.2:=by
  have p:=F20_eq (t0:=t0) (g1:=g1) (g2:=g2) ga gp
  exact ⟨by simp only [F20_ok,p];rfl,by simp only [F20_2,p]⟩
theorem F67_all (ga:GL S6 6 ca na)(gp:GL I5 5 cp np):F67_ok t0 g1 g2 ca 0 na cp 0 np=true∧F67_0 t0 g1 g2 ca 0 na cp 0 np=(ckT t0 g1 g2 ca na cp np).2.2:=by
  have p:=F21_eq (t0:=t0) (g1:=g1) (g2:=g2) ga gp
  have o:F21_ok t0 g1 g2 ca 0 na cp 0 np=true:=by simp only [F21_ok,p];rfl
  have q:F67 t0 g1 g2 ca 0 na cp 0 np=some ⟨(ckT t0 g1 g2 ca na cp np).2.2⟩:=by
    unfold F67 rt67
    simp only [RT.val,o,F21_2,p,cond_true]
  exact ⟨by simp only [F67_ok,q];rfl,by simp only [F67_0,q]⟩
theorem F65_of (a b:Int):F65_ok a b=true∧F65_0 a b=inB a 0 (IntKind.wrap .i64 (b-1)):=by
  have q:F65 a b=some ⟨inB a 0 (IntKind.wrap .i64 (b-1))⟩:=by
    unfold F65 rt65
    simp only [RT.val,(F58_of _ _ _).1,(F58_of _ _ _).2,cond_true]
  exact ⟨by simp only [F65_ok,q];rfl,by simp only [F65_0,q]⟩
theorem wid (ga:GL S6 6 ca na)(gp:GL I5 5 cp np)(i:Int):∃a e,F23 t0 g1 g2 ca 0 na cp 0 np i=some ⟨a,e⟩∧F24 t0 g1 g2 ca 0 na cp 0 np i=some ⟨a,e⟩:=by
  obtain ⟨o1,e1⟩:=F20_all (t0:=t0) (g1:=g1) (g2:=g2) ga gp
  obtain ⟨o2,e2⟩:=F67_all (t0:=t0) (g1:=g1) (g2:=g2) ga gp
  unfold F23 rt23 F24 rt24
  by_cases hz:(ckT t0 g1 g2 ca na cp np).2.2=0
  · have v:=vld hz
    cases hb:inB i 0 (IntKind.wrap .i64 ((np:Int)-1)) with
    | false =>
      refine ⟨0,4,?_,?_⟩
      · simp only [RT.val,o1,e1,hz,(F65_of _ _).1,(F65_of _ _).2,hb,Int.ofNat_eq_natCast,decide_true,Bool.not_true,Bool.not_false,cond_true,cond_false]
      · simp only [RT.val,o2,e2,hz,(F62_of _ _ _).1,(F62_of _ _ _).2,hb,Int.ofNat_eq_natCast,decide_true,Bool.not_true,Bool.not_false,cond_true,cond_false]
    | true =>
      have hb':=hb
      have:=v.fp
      rw [wrap64_id (by omega) (by omega)]at hb'
      simp only [inB,Bool.and_eq_true,decide_eq_true_eq]at hb'
      obtain ⟨k,rfl⟩:∃k:Nat,i=(k:Int):=⟨i.toNat,by omega⟩
      obtain ⟨W,w1,w2⟩:=width v ga gp (k:=k) (by omega)
      have x1:F66_ok t0 g1 g2 ca 0 na cp 0 np (k:Int)=true:=by simp only [F66_ok,w1];rfl
      have x2:F68_ok t0 g1 g2 ca 0 na cp 0 np (k:Int)=true:=by simp only [F68_ok,w2];rfl
      refine ⟨W,0,?_,?_⟩
      · simp only [RT.val,o1,e1,hz,(F65_of _ _).1,(F65_of _ _).2,hb,x1,F66_0,w1,Int.ofNat_eq_natCast,decide_true,Bool.not_true,Bool.not_false,cond_true,cond_false]
      · simp only [RT.val,o2,e2,hz,(F62_of _ _ _).1,(F62_of _ _ _).2,hb,x2,F68_0,w2,Int.ofNat_eq_natCast,decide_true,Bool.not_true,Bool.not_false,cond_true,cond_false]
  · refine ⟨0,(ckT t0 g1 g2 ca na cp np).2.2,?_,?_⟩
    · simp only [RT.val,o1,e1,hz,decide_false,Bool.not_false,cond_true]
    · simp only [RT.val,o2,e2,hz,decide_false,Bool.not_false,cond_true,cond_false]
theorem rea (ga:GL S6 6 ca na)(gp:GL I5 5 cp np)(i:Int):∃a e,F28 t0 g1 g2 ca 0 na cp 0 np i=some ⟨a,e⟩∧F29 t0 g1 g2 ca 0 na cp 0 np i=some ⟨a,e⟩:=by
  obtain ⟨o1,e1⟩:=F20_all (t0:=t0) (g1:=g1) (g2:=g2) ga gp
  obtain ⟨o2,e2⟩:=F67_all (t0:=t0) (g1:=g1) (g2:=g2) ga gp
  unfold F28 rt28 F29 rt29
  by_cases hz:(ckT t0 g1 g2 ca na cp np).2.2=0
  · have v:=vld hz
    cases hb:inB i 0 100000 with
    | false =>
      refine ⟨0,7,?_,?_⟩
      · simp only [RT.val,o1,e1,hz,(F57_of _).1,(F57_of _).2,hb,decide_true,Bool.not_true,Bool.not_false,cond_true,cond_false]
      · simp only [RT.val,o2,e2,hz,(F61_of _).1,(F61_of _).2,hb,decide_true,Bool.not_true,Bool.not_false,cond_true,cond_false]
    | true =>
      have h2:¬g2=0:=by have:=v.acc;omega
      have x1:F71 t0 g1 g2 ca 0 na cp 0 np i=some ⟨F72_0 t0 g1 g2 ca 0 na cp 0 np i⟩:=by
        unfold F72_0 F72 F71 rt71 rt72
        simp only [RT.val,h2,decide_false,Bool.not_false,cond_true]
      have x2:F72_ok t0 g1 g2 ca 0 na cp 0 np i=true:=by
        unfold F72_ok F72 rt72
        simp only [RT.val,h2,decide_false,Bool.not_false,cond_true]
        rfl
      have x3:F71_ok t0 g1 g2 ca 0 na cp 0 np i=true:=by simp only [F71_ok,x1];rfl
      refine ⟨F72_0 t0 g1 g2 ca 0 na cp 0 np i,0,?_,?_⟩
      · simp only [RT.val,o1,e1,hz,(F57_of _).1,(F57_of _).2,hb,x3,F71_0,x1,decide_true,Bool.not_true,Bool.not_false,cond_true,cond_false]
      · simp only [RT.val,o2,e2,hz,(F61_of _).1,(F61_of _).2,hb,x2,decide_true,Bool.not_true,Bool.not_false,cond_true,cond_false]
  · refine ⟨0,(ckT t0 g1 g2 ca na cp np).2.2,?_,?_⟩
    · simp only [RT.val,o1,e1,hz,decide_false,Bool.not_false,cond_true]
    · simp only [RT.val,o2,e2,hz,decide_false,Bool.not_false,cond_true,cond_false]
end
def knP (ca cp:Array Value)(now:Int)(k:Nat):Bool:=decide (IntKind.wrap .i64 (getInt cp (0+k*5+1)+getInt ca (0+(getInt cp (0+k*5)).toNat*6+5))≤now)
def knL (ca cp:Array Value)(now:Int):Nat→Nat→List Int
  | 0,_=>[]
  | m+1,k=>if knP ca cp now k=true then (k:Int)::knL ca cp now m (k+1) else knL ca cp now m (k+1)
theorem knL_len (ca cp:Array Value)(now:Int):∀m k,(knL ca cp now m k).length≤m
  | 0,_=>Nat.le_refl _
  | m+1,k=>by
    have:=knL_len ca cp now m (k+1)
    unfold knL
    split
    · simp only [List.length_cons];omega
    · omega
theorem encI_app (L:List Int)(v:Int):encI (L++[v])=some (arrI (L++[v]),L.length+1):=by
  cases L with
  | nil=>rfl
  | cons a r=>simp [encI]
theorem ap8 (L:List Int)(v:Int):apB (Array.extract (arrI L) 0 L.length) ⟨[(Value.int .i64 v)]⟩=arrI (L++[v]):=by
  have:=apB_arrI L v
  simp only [Nat.zero_add,Nat.mul_one]at this
  exact this
section
variable {ca cp:Array Value}{na np k:Nat}{t0 g1 g2 now:Int}
theorem isL (v:Vld t0 g1 g2 ca na cp np)(ga:GL S6 6 ca na)(hk:k<np):isInt .i64 ca (0+(getInt cp (0+k*5)).toNat*6+5)=true:=by
  have hs:=v.src hk
  have hr2:rdOk ca S6 (0+(getInt cp (0+k*5)).toNat*6)=true:=srow6 ga (by omega)
  unfold S6 at hr2
  exact (rd_and (rd_and (rd_and (rd_and (rd_and (rd_and hr2).2).2).2).2).2).1
theorem F70_of (v:Vld t0 g1 g2 ca na cp np)(ga:GL S6 6 ca na)(gp:GL I5 5 cp np)(hk:k<np):F70_ok t0 g1 g2 ca 0 na cp 0 np (k:Int) now=true∧F70_0 t0 g1 g2 ca 0 na cp 0 np (k:Int) now=knP ca cp now k:=by
  have hki:(k:Int)<(np:Int):=by omega
  have h0:(0:Int)≤(k:Int):=by omega
  have hs:=v.src hk
  have hr:rdOk cp I5 (0+k*5)=true:=row5 gp hk
  unfold I5 at hr
  have i1:isInt .i64 cp (0+k*5)=true:=(rd_and hr).1
  have i2:isInt .i64 cp (0+k*5+1)=true:=(rd_and (rd_and hr).2).1
  have i3:=isL v ga hk
  have q:F70 t0 g1 g2 ca 0 na cp 0 np (k:Int) now=some ⟨knP ca cp now k⟩:=by
    unfold F70 rt70 knP
    simp only [RT.val,hki,h0,hs.1,hs.2,i1,i2,i3,Int.toNat_natCast,Int.ofNat_eq_natCast,Nat.add_zero,decide_true,Bool.and_self,cond_true]
  exact ⟨by simp only [F70_ok,q];rfl,by simp only [F70_0,q]⟩
theorem round26 (v:Vld t0 g1 g2 ca na cp np)(ga:GL S6 6 ca na)(gp:GL I5 5 cp np)(hk:k<np)(L:List Int)(hl:L.length≤1000) :
    (rd26_0 ⟨encI L,now,(k:Int),t0,g1,g2,ca,0,na,cp,0,np⟩).val=some (.inl ⟨encI (if knP ca cp now k=true then L++[(k:Int)] else L),now,((k+1:Nat):Int),t0,g1,g2,ca,0,na,cp,0,np⟩):=by
  have few:=v.fp
  have hki:(k:Int)<(np:Int):=by omega
  have h3:IntKind.wrap .i64 ((k:Int)+1)=((k+1:Nat):Int):=by rw [wrap64_id (by omega) (by omega)];omega
  obtain ⟨o,e⟩:=F70_of (now:=now) v ga gp hk
  have z:0+L.length*1=L.length:=by omega
  have q1:(L.length+1)*8≤140737488355328:=by omega
  have q2:L.length+1≤4611686018427387904:=by omega
  have a2:=ap8 L (k:Int)
  have e6:=encI_app L (k:Int)
  cases hp:knP ca cp now k with
  | true =>
    rw [hp]at e
    rw [if_pos rfl,e6]
    cases L with
    | nil =>
      simp only [rd26_0,encI,RT.val,hki,h3,o,e,Int.ofNat_eq_natCast,decide_true,cond_true]
      rfl
    | cons a r =>
      have e5:encI (a::r)=some (arrI (a::r),(a::r).length):=rfl
      rw [e5]
      generalize a::r=M at *
      simp only [rd26_0,RT.val,hki,h3,o,e,q1,q2,z,a2,size_arrI,allFz_arrI,Nat.le_refl,Int.ofNat_eq_natCast,decide_true,Bool.and_self,cond_true]
  | false =>
    rw [hp]at e
    rw [if_neg (by simp)]
    cases L with
    | nil =>
      simp only [rd26_0,encI,RT.val,hki,h3,o,e,Int.ofNat_eq_natCast,decide_true,cond_true,cond_false]
    | cons a r =>
      have e5:encI (a::r)=some (arrI (a::r),(a::r).length):=rfl
      rw [e5]
      generalize a::r=M at *
      simp only [rd26_0,RT.val,hki,h3,o,e,allFz_arrI,Int.ofNat_eq_natCast,decide_true,cond_true,cond_false]
theorem loop26 (v:Vld t0 g1 g2 ca na cp np)(ga:GL S6 6 ca na)(gp:GL I5 5 cp np):∀(m k:Nat) (L:List Int),k+m=np→L.length≤k →
    loopR rd26_0 ⟨encI L,now,(k:Int),t0,g1,g2,ca,0,na,cp,0,np⟩=some (.k0 (arrI (L++knL ca cp now m k)) 0 (L++knL ca cp now m k).length t0 g1 g2 ca 0 na cp 0 np)
  | 0,k,L,e,hl=>by
    obtain rfl:k=np:=by omega
    rw [show L++knL ca cp now 0 k=L from List.append_nil L]
    have h1:¬((k:Int)<(k:Int)):=by omega
    refine loopR_done ?_
    cases L with
    | nil=>simp only [rd26_0,encI,RT.val,h1,Int.ofNat_eq_natCast,decide_false,cond_false];rfl
    | cons a r=>simp only [rd26_0,encI,RT.val,h1,Int.ofNat_eq_natCast,allFz_arrI,size_arrI,Nat.zero_add,Nat.mul_one,Nat.le_refl,decide_true,decide_false,Bool.and_self,cond_true,cond_false]
  | m+1,k,L,e,hl=>by
    have few:=v.fp
    refine (loopR_next (round26 v ga gp (by omega) L (by omega))).trans ?_
    by_cases hp:knP ca cp now k=true
    · rw [if_pos hp,loop26 v ga gp m (k+1) (L++[(k:Int)]) (by omega) (by simp;omega)]
      rw [show knL ca cp now (m+1) k=(k:Int)::knL ca cp now m (k+1) from by rw [knL,if_pos hp],List.append_assoc]
      rfl
    · rw [if_neg hp,loop26 v ga gp m (k+1) L (by omega) (by omega)]
      rw [show knL ca cp now (m+1) k=knL ca cp now m (k+1) from by rw [knL,if_neg hp]]
theorem round25 {hb:Nat}{hw:List Nat}{b1 b2 b3:Bool}(v:Vld t0 g1 g2 ca na cp np) (ga:GL S6 6 ca na) (gp:GL I5 5 cp np) (hk:k<np) (L:List Int) (hl:L.length≤1000) :
    (rd25_102x0 ⟨encI L,hb,hw,cp,0,np,(np:Int),(k:Int),t0,g1,g2,ca,0,na,cp,0,np,t0,g1,g2,ca,0,na,cp,0,np,now,b1,b2,b3⟩).val =
    some (.inl ⟨encI (if knP ca cp now k=true then L++[(k:Int)] else L),hb,hw,cp,0,np,(np:Int),((k+1:Nat):Int),t0,g1,g2,ca,0,na,cp,0,np,t0,g1,g2,ca,0,na,cp,0,np,now,b1,b2,b3⟩):=by
  have few:=v.fp
  have hki:(k:Int)<(np:Int):=by omega
  have h0:(0:Int)≤(k:Int):=by omega
  have hs:=v.src hk
  have hr:rdOk cp I5 (0+k*5)=true:=row5 gp hk
  unfold I5 at hr
  have i3:=isL v ga hk
  have h3:IntKind.wrap .i64 ((k:Int)+1)=((k+1:Nat):Int):=by rw [wrap64_id (by omega) (by omega)];omega
  have z:0+L.length*1=L.length:=by omega
  have q1:(L.length+1)*8≤140737488355328:=by omega
  have q2:L.length+1≤4611686018427387904:=by omega
  have a2:=ap8 L (k:Int)
  have e6:=encI_app L (k:Int)
  have e:decide (IntKind.wrap .i64 (getInt cp (0+k*5+1)+getInt ca (0+(getInt cp (0+k*5)).toNat*6+5))≤now)=knP ca cp now k:=rfl
  cases hp:knP ca cp now k with
  | true =>
    rw [hp]at e
    rw [if_pos rfl,e6]
    cases L with
    | nil =>
      simp only [rd25_102x0,encI,RT.val,hki,h0,hs.1,hs.2,hr,i3,h3,e,Int.toNat_natCast,Int.ofNat_eq_natCast,decide_true,Bool.and_self,cond_true]
      rfl
    | cons a r =>
      have e5:encI (a::r)=some (arrI (a::r),(a::r).length):=rfl
      rw [e5]
      generalize a::r=M at *
      simp only [rd25_102x0,RT.val,hki,h0,hs.1,hs.2,hr,i3,h3,e,q1,q2,z,a2,size_arrI,allFz_arrI,Nat.le_refl,Int.toNat_natCast,Int.ofNat_eq_natCast,decide_true,Bool.and_self,cond_true]
  | false =>
    rw [hp]at e
    rw [if_neg (by simp)]
    cases L with
    | nil =>
      simp only [rd25_102x0,encI,RT.val,hki,h0,hs.1,hs.2,hr,i3,h3,e,Int.toNat_natCast,Int.ofNat_eq_natCast,decide_true,Bool.and_self,cond_true,cond_false]
    | cons a r =>
      have e5:encI (a::r)=some (arrI (a::r),(a::r).length):=rfl
      rw [e5]
      generalize a::r=M at *
      simp only [rd25_102x0,RT.val,hki,h0,hs.1,hs.2,hr,i3,h3,e,allFz_arrI,Int.toNat_natCast,Int.ofNat_eq_natCast,decide_true,Bool.and_self,cond_true,cond_false]
theorem loop25 {hb:Nat}{hw:List Nat}{b1 b2 b3:Bool}(v:Vld t0 g1 g2 ca na cp np) (ga:GL S6 6 ca na) (gp:GL I5 5 cp np):∀(m k:Nat) (L:List Int),k+m=np→L.length≤k →
    loopR rd25_102x0 ⟨encI L,hb,hw,cp,0,np,(np:Int),(k:Int),t0,g1,g2,ca,0,na,cp,0,np,t0,g1,g2,ca,0,na,cp,0,np,now,b1,b2,b3⟩ =
    some (.k0 t0 g1 g2 ca 0 na cp 0 np (arrI (L++knL ca cp now m k)) 0 (L++knL ca cp now m k).length t0 g1 g2 ca 0 na cp 0 np now b1 b2 b3)
  | 0,k,L,e,hl=>by
    obtain rfl:k=np:=by omega
    rw [show L++knL ca cp now 0 k=L from List.append_nil L]
    have h1:¬((k:Int)<(k:Int)):=by omega
    refine loopR_done ?_
    cases L with
    | nil=>simp only [rd25_102x0,encI,RT.val,h1,Int.ofNat_eq_natCast,decide_false,cond_false];rfl
    | cons a r=>simp only [rd25_102x0,encI,RT.val,h1,Int.ofNat_eq_natCast,allFz_arrI,size_arrI,Nat.zero_add,Nat.mul_one,Nat.le_refl,decide_true,decide_false,Bool.and_self,cond_true,cond_false]
  | m+1,k,L,e,hl=>by
    have few:=v.fp
    refine (loopR_next (round25 v ga gp (by omega) L (by omega))).trans ?_
    by_cases hp:knP ca cp now k=true
    · rw [if_pos hp,loop25 v ga gp m (k+1) (L++[(k:Int)]) (by omega) (by simp;omega)]
      rw [show knL ca cp now (m+1) k=(k:Int)::knL ca cp now m (k+1) from by rw [knL,if_pos hp],List.append_assoc]
      rfl
    · rw [if_neg hp,loop25 v ga gp m (k+1) L (by omega) (by omega)]
      rw [show knL ca cp now (m+1) k=knL ca cp now m (k+1) from by rw [knL,if_neg hp]]
theorem kno (ga:GL S6 6 ca na)(gp:GL I5 5 cp np)(i:Int):∃(K:List Int) (e:Int),K.length≤1000∧F25 t0 g1 g2 ca 0 na cp 0 np i=some ⟨arrI K,0,K.length,e⟩∧F26 t0 g1 g2 ca 0 na cp 0 np i=some ⟨arrI K,0,K.length,e⟩:=by
  obtain ⟨o1,e1⟩:=F20_all (t0:=t0) (g1:=g1) (g2:=g2) ga gp
  obtain ⟨o2,e2⟩:=F67_all (t0:=t0) (g1:=g1) (g2:=g2) ga gp
  unfold F25 rt25 F26 rt26
  by_cases hz:(ckT t0 g1 g2 ca na cp np).2.2=0
  · have v:=vld hz
    have few:=v.fp
    cases hb:inB i 0 100000 with
    | false =>
      refine ⟨[],7,by simp,?_,?_⟩
      · simp only [RT.val,o1,e1,hz,(F57_of _).1,(F57_of _).2,hb,decide_true,Bool.not_true,Bool.not_false,cond_true,cond_false]
        rfl
      · simp only [RT.val,o2,e2,hz,(F61_of _).1,(F61_of _).2,hb,decide_true,Bool.not_true,Bool.not_false,cond_true,cond_false]
        rfl
    | true =>
      have l1:=loop25 (now:=i) (b1:=false) (b2:=true) (b3:=false) (hb:=6) (hw:=[]) v ga gp np 0 [] (by omega) (by simp)
      have l1':L25_102x0 ⟨none,6,[],cp,0,np,(np:Int),0,t0,g1,g2,ca,0,na,cp,0,np,t0,g1,g2,ca,0,na,cp,0,np,i,false,true,false⟩=_:=l1
      have l2:=loop26 (now:=i) v ga gp np 0 [] (by omega) (by simp)
      have l2':L26_0 ⟨none,i,0,t0,g1,g2,ca,0,na,cp,0,np⟩=_:=l2
      refine ⟨knL ca cp i np 0,0,by have:=knL_len ca cp i np 0;omega,?_,?_⟩
      · simp only [RT.val,o1,e1,hz,(F57_of _).1,(F57_of _).2,hb,eqCode_self,L25_102x0_k0,L25_102x0_k0_9,L25_102x0_k0_10,L25_102x0_k0_11,l1',Int.ofNat_eq_natCast,List.nil_append,decide_true,Bool.not_true,Bool.not_false,cond_true,cond_false]
      · simp only [RT.val,o2,e2,hz,(F61_of _).1,(F61_of _).2,hb,L26_0_k0,Qs0,Qs1,Qs2,l2',List.nil_append,decide_true,Bool.not_true,Bool.not_false,cond_true,cond_false]
  · refine ⟨[],(ckT t0 g1 g2 ca na cp np).2.2,by simp,?_,?_⟩
    · simp only [RT.val,o1,e1,hz,decide_false,Bool.not_false,cond_true]
      rfl
    · simp only [RT.val,o2,e2,hz,decide_false,Bool.not_false,cond_true,cond_false]
      rfl
end
theorem true4:True4:=by
  intro t0 g1 g2 ca na cp np x y z h1 h2
  obtain ⟨a,e,p,q⟩:=wid (t0:=t0) (g1:=g1) (g2:=g2) h1 h2 x
  obtain ⟨K,f,hl,p2,q2⟩:=kno (t0:=t0) (g1:=g1) (g2:=g2) h1 h2 y
  obtain ⟨b,g,p3,q3⟩:=rea (t0:=t0) (g1:=g1) (g2:=g2) h1 h2 z
  have hm:maxLen=9223372036854775807:=rfl
  obtain ⟨i1,i2⟩:=F27_self (c:=arrI K) (o:=0) (n:=K.length) (fun i hi=>isInt_arrI K hi) (by omega)
  have o1:F23_ok t0 g1 g2 ca 0 na cp 0 np x=true:=by simp only [F23_ok,p];rfl
  have o2:F24_ok t0 g1 g2 ca 0 na cp 0 np x=true:=by simp only [F24_ok,q];rfl
  have o3:F25_ok t0 g1 g2 ca 0 na cp 0 np y=true:=by simp only [F25_ok,p2];rfl
  have o4:F26_ok t0 g1 g2 ca 0 na cp 0 np y=true:=by simp only [F26_ok,q2];rfl
  have o5:F28_ok t0 g1 g2 ca 0 na cp 0 np z=true:=by simp only [F28_ok,p3];rfl
  have o6:F29_ok t0 g1 g2 ca 0 na cp 0 np z=true:=by simp only [F29_ok,q3];rfl
  unfold rt4
  simp only [RT.val,o1,o2,o3,o4,o5,o6,F23_0,F23_1,F24_0,F24_1,F25_0,F25_1,F25_2,F25_3,F26_0,F26_1,F26_2,F26_3,F28_0,F28_1,F29_0,F29_1,p,q,p2,q2,p3,q3,i1,i2,decide_true,Bool.not_true,cond_true,cond_false]
theorem trackKnowsProved:Rows.TrackKnowsSaid:=said4 true4
end
end Go.Proofs.Ytmppkpdoonljpaa
