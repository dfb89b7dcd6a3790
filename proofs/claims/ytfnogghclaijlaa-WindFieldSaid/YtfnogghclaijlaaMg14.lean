/- Part 14 of the texts below the claim. Conditions: none. -/
import Derived.Test.YtfnogghclaijlaaMg12
import Derived.Test.YtfnogghclaijlaaMg13
import Derived.Test.YtfnogghclaijlaaMg11
import Derived.Test.YtfnogghclaijlaaMg6
import Derived.Test.YtfnogghclaijlaaMg10
import Derived.Test.YtfnogghclaijlaaMg8
set_option linter.unusedVariables false
set_option linter.unusedSimpArgs false
namespace Go.Proofs.Ytfnogghclaijlaa
open Go.Gi Go.RowKit Go.Proofs.Ytfnogghclaijlaa.Old
noncomputable section
set_option maxRecDepth 100000
theorem getInt_set {c:Array Value}{i j:Nat}{v:Int}(h:j<c.size):getInt (wcells c j [.int .i64 v]) i=if i=j then v else getInt c i:=by
  show getInt (c.setIfInBounds j (.int .i64 v)) i=_
  unfold getInt
  rw [lget_eq,lget_eq]
  simp only [Array.toArray_toList,Array.getD_eq_getD_getElem?,Array.getElem?_setIfInBounds]
  by_cases e:i=j
  · subst e
    rw [if_pos rfl,if_pos h,if_pos rfl]
    rfl
  · rw [if_neg (Ne.symm e),if_neg e]
theorem isInt_set {c:Array Value}{i j:Nat}{v:Int}(h:isInt .i64 c i=true):isInt .i64 (wcells c j [.int .i64 v]) i=true:=by
  show isInt .i64 (c.setIfInBounds j (.int .i64 v)) i=true
  unfold isInt at h ⊢
  rw [lget_eq]at h ⊢
  simp only [Array.toArray_toList,Array.getD_eq_getD_getElem?,Array.getElem?_setIfInBounds]at h ⊢
  by_cases e:j=i
  · subst e
    by_cases hj:j<c.size
    · rw [if_pos rfl,if_pos hj]
      rfl
    · rw [if_pos rfl,if_neg hj]
      rw [Array.getElem?_eq_none (by omega)]at h
      exact h
  · rw [if_neg e];exact h
theorem fz_ints {c:Array Value}(h:∀i,i<c.size→isInt .i64 c i=true):allFz c=true:=by
  unfold allFz
  rw [List.all_eq_true]
  intro v hv
  obtain ⟨i,hi,e⟩:=List.getElem_of_mem hv
  have hi':i<c.size:=by simpa using hi
  have:=h i hi'
  unfold isInt at this
  rw [lget_eq]at this
  simp only [Array.toArray_toList,Array.getD_eq_getD_getElem?,Array.getElem?_eq_getElem hi',Option.getD_some]at this
  have e':c[i]=v:=by simpa using e
  rw [e']at this
  split at this
  · rfl
  · cases this
theorem size_set {c:Array Value}{j:Nat}{v:Value}:(wcells c j [v]).size=c.size:=wcells_size [v] c j
section
variable {w c0 c c3 cur:Array Value}{nw n n2 n3 k:Nat}{but tick x y rx ry tx ty age shear z1 z2:Int}
theorem pI_bd {a r t h k:Int}(ha:I16 a) (g1:0≤age∧age≤1000) (g2:0≤shear∧shear≤1000) (hh:0≤h∧h≤100000000) (hk:0≤k∧k≤100000):-2000000≤pI a r t age shear h k∧pI a r t age shear h k≤2000000:=by
  unfold I16 at ha
  have c1:=clamp_bd (v:=r) g2.1
  have c2:=clamp_bd (v:=t) g1.1
  have m1:=mul_bd c1.1 c1.2 hh.1 hh.2 g2.1
  have m2:=mul_bd c2.1 c2.2 hk.1 hk.2 g1.1
  unfold pI
  omega
structure Fld (x y rx ry tx ty:Int) (w:Array Value) (nw:Nat):Prop where
  x:I16 x
  y:I16 y
  rx:I16 rx
  ry:I16 ry
  tx:I16 tx
  ty:I16 ty
  w:∀j,j<nw→isInt .i8 w (0+j)=true∧getInt w (0+j)≤127∧-128≤getInt w (0+j)
  few:nw≤maxLen
structure Ms (c0 c:Array Value) (n2:Nat) (but x y rx ry tx ty age shear:Int) (k:Nat) (cur:Array Value):Prop where
  size:cur.size=n2*5
  ints:∀i,i<n2*5→isInt .i64 cur i=true
  same:∀i,i<n2→getInt cur (i*5)=getInt c (i*5)∧getInt cur (i*5+1)=getInt c (i*5+1)∧getInt cur (i*5+2)=getInt c (i*5+2)
  nearX:∀i,i<k→i<n2→getInt c (i*5)≠but→-getInt c0 ((getInt c (i*5)).toNat*7+2)≤getInt cur (i*5+3)-pI x rx tx age shear (getInt c (i*5+2)) (getInt c (i*5+1)) ∧
    getInt cur (i*5+3)-pI x rx tx age shear (getInt c (i*5+2)) (getInt c (i*5+1))≤getInt c0 ((getInt c (i*5)).toNat*7+2)
  nearY:∀i,i<k→i<n2→getInt c (i*5)≠but→-getInt c0 ((getInt c (i*5)).toNat*7+2)≤getInt cur (i*5+4)-pI y ry ty age shear (getInt c (i*5+2)) (getInt c (i*5+1)) ∧
    getInt cur (i*5+4)-pI y ry ty age shear (getInt c (i*5+2)) (getInt c (i*5+1))≤getInt c0 ((getInt c (i*5)).toNat*7+2)
theorem Ms.fz (h:Ms c0 c n2 but x y rx ry tx ty age shear k cur):allFz cur=true:=fz_ints fun i hi=>h.ints i (by rw [h.size]at hi;exact hi)
theorem Ms.skip (h:Ms c0 c n2 but x y rx ry tx ty age shear k cur)(hb:getInt c (k*5)=but):Ms c0 c n2 but x y rx ry tx ty age shear (k+1) cur:=by
  refine ⟨h.size,h.ints,h.same,fun i hi hn hne=>?_,fun i hi hn hne=>?_⟩
  · rcases Nat.lt_or_ge i k with h1 | h1
    · exact h.nearX i h1 hn hne
    · obtain rfl:i=k:=by omega
      exact absurd hb hne
  · rcases Nat.lt_or_ge i k with h1 | h1
    · exact h.nearY i h1 hn hne
    · obtain rfl:i=k:=by omega
      exact absurd hb hne
theorem Ms.put {a b:Int}(h:Ms c0 c n2 but x y rx ry tx ty age shear k cur) (hk:k<n2)
    (ha:-getInt c0 ((getInt c (k*5)).toNat*7+2)≤a-pI x rx tx age shear (getInt c (k*5+2)) (getInt c (k*5+1))∧a-pI x rx tx age shear (getInt c (k*5+2)) (getInt c (k*5+1))≤getInt c0 ((getInt c (k*5)).toNat*7+2))
    (hb:-getInt c0 ((getInt c (k*5)).toNat*7+2)≤b-pI y ry ty age shear (getInt c (k*5+2)) (getInt c (k*5+1))∧b-pI y ry ty age shear (getInt c (k*5+2)) (getInt c (k*5+1))≤getInt c0 ((getInt c (k*5)).toNat*7+2)) :
    Ms c0 c n2 but x y rx ry tx ty age shear (k+1) (wcells (wcells cur (k*5+3) [.int .i64 a]) (k*5+4) [.int .i64 b]):=by
  have s1:k*5+3<cur.size:=by rw [h.size];omega
  have s2:k*5+4<(wcells cur (k*5+3) [.int .i64 a]).size:=by rw [size_set,h.size];omega
  have g:∀i,getInt (wcells (wcells cur (k*5+3) [.int .i64 a]) (k*5+4) [.int .i64 b]) i=if i=k*5+4 then b else if i=k*5+3 then a else getInt cur i:=by
    intro i
    rw [getInt_set s2,getInt_set s1]
  refine ⟨by rw [size_set,size_set,h.size],fun i hi=>isInt_set (isInt_set (h.ints i hi)),fun i hi=>?_,fun i hi hn hne=>?_,fun i hi hn hne=>?_⟩
  · obtain ⟨q1,q2,q3⟩:=h.same i hi
    rw [g,g,g,if_neg (by omega),if_neg (by omega),if_neg (by omega),if_neg (by omega),if_neg (by omega),if_neg (by omega)]
    exact ⟨q1,q2,q3⟩
  · rw [g]
    rcases Nat.lt_or_ge i k with h1 | h1
    · rw [if_neg (by omega),if_neg (by omega)]
      exact h.nearX i h1 hn hne
    · obtain rfl:i=k:=by omega
      rw [if_neg (by omega),if_pos rfl]
      exact ha
  · rw [g]
    rcases Nat.lt_or_ge i k with h1 | h1
    · rw [if_neg (by omega),if_neg (by omega)]
      exact h.nearY i h1 hn hne
    · obtain rfl:i=k:=by omega
      rw [if_pos rfl]
      exact hb
theorem round54 (hv:Vld c0 0 n c 0 n2 age shear)(fl:Fld x y rx ry tx ty w nw)(hk:k<n2)(I:Ms c0 c n2 but x y rx ry tx ty age shear k cur) :
    (∃A,(rd54_0b ⟨but,tick,(k:Int),x,y,rx,ry,tx,ty,w,0,nw,c0,0,n,n2,c3,0,n3,age,shear,z1,z2,cur⟩).val =
      some (.inr (.k0 false x y rx ry tx ty w 0 nw c0 0 n n2 c3 0 n3 age shear c0 0 n n2 c3 0 n3 age shear A))∧allFz A=true∧A.size=n2*5) ∨
    ∃cur',(rd54_0b ⟨but,tick,(k:Int),x,y,rx,ry,tx,ty,w,0,nw,c0,0,n,n2,c3,0,n3,age,shear,z1,z2,cur⟩).val =
      some (.inl ⟨but,tick,((k+1:Nat):Int),x,y,rx,ry,tx,ty,w,0,nw,c0,0,n,n2,c3,0,n3,age,shear,z1,z2,cur'⟩)∧Ms c0 c n2 but x y rx ry tx ty age shear (k+1) cur':=by
  have few:=hv.few2
  have hki:(k:Int)<(n2:Int):=by omega
  have h0:(0:Int)≤(k:Int):=by omega
  have h3:IntKind.wrap .i64 ((k:Int)+1)=((k+1:Nat):Int):=by rw [wrap64_id (by omega) (by omega)];omega
  have i0:isInt .i64 cur (k*5)=true:=I.ints _ (by omega)
  have i1:isInt .i64 cur (k*5+1)=true:=I.ints _ (by omega)
  have i2:isInt .i64 cur (k*5+2)=true:=I.ints _ (by omega)
  obtain ⟨e0,e1,e2⟩:=I.same k hk
  have hfz:=I.fz
  have hs:=hv.src k hk
  have ht:=hv.tick k hk
  have hh:=hv.height k hk
  simp only [Nat.zero_add]at hs ht hh
  by_cases hb:getInt c (k*5)=but
  · right
    refine ⟨cur,?_,I.skip hb⟩
    simp only [rd54_0b,RT.val,Int.ofNat_eq_natCast,Int.toNat_natCast,Nat.zero_add,Nat.add_zero,hki,h0,h3,i0,e0,hb,hfz,decide_true,Bool.and_self,cond_true]
  · have hsn:(getInt c (k*5)).toNat<n:=by omega
    have p1:¬getInt c (k*5)<0:=by omega
    have p2:¬(n:Int)≤getInt c (k*5):=by omega
    have err:=hv.err _ hsn
    simp only [Nat.zero_add]at err
    have r2:isInt .i64 c0 ((getInt c (k*5)).toNat*7+2)=true:=by
      have:=rdOk_int2 (row0 hv.g0 (s:=getInt c (k*5)) hs.1 hs.2)
      simpa only [Nat.zero_add] using this
    obtain ⟨f1,f2,f3,f4⟩:=F55_at (w:=w) (ow:=0) (nw:=nw) (c0:=c0) (c:=cur) (c3:=c3) (n:=n) (n2:=n2) (n3:=n3) (o0:=0) (o2:=0) (o3:=0) (h:=getInt c (k*5+2)) (k:=getInt c (k*5+1)) fl.x fl.y fl.rx fl.ry fl.tx fl.ty hv.age hv.shear (by omega) ht
    have b1:=pI_bd (r:=rx) (t:=tx) (h:=getInt c (k*5+2)) (k:=getInt c (k*5+1)) fl.x hv.age hv.shear (by omega) ht
    have b2:=pI_bd (r:=ry) (t:=ty) (h:=getInt c (k*5+2)) (k:=getInt c (k*5+1)) fl.y hv.age hv.shear (by omega) ht
    have w1:IntKind.wrap .i64 (2*(k:Int))=2*(k:Int):=wrap64_id (by omega) (by omega)
    have w2:IntKind.wrap .i64 (2*(k:Int)+1)=2*(k:Int)+1:=wrap64_id (by omega) (by omega)
    obtain ⟨d1,d2,d3⟩:=F102_at (x:=x) (y:=y) (rx:=rx) (ry:=ry) (tx:=tx) (ty:=ty) (i:=2*(k:Int)) (most:=getInt c0 ((getInt c (k*5)).toNat*7+2)) fl.w fl.few (by omega) err.1 err.2
    obtain ⟨g1,g2,g3⟩:=F102_at (x:=x) (y:=y) (rx:=rx) (ry:=ry) (tx:=tx) (ty:=ty) (i:=2*(k:Int)+1) (most:=getInt c0 ((getInt c (k*5)).toNat*7+2)) fl.w fl.few (by omega) err.1 err.2
    generalize hG1:F102_0 x y rx ry tx ty w 0 nw (2*(k:Int)) (getInt c0 ((getInt c (k*5)).toNat*7+2))=G1 at d2 d3
    generalize hG2:F102_0 x y rx ry tx ty w 0 nw (2*(k:Int)+1) (getInt c0 ((getInt c (k*5)).toNat*7+2))=G2 at g2 g3
    generalize hPX:pI x rx tx age shear (getInt c (k*5+2)) (getInt c (k*5+1))=PX at b1 f2 f4
    generalize hPY:pI y ry ty age shear (getInt c (k*5+2)) (getInt c (k*5+1))=PY at b2 f3 f4
    have w3:IntKind.wrap .i64 (PX+G1)=PX+G1:=wrap64_id (by omega) (by omega)
    have w4:IntKind.wrap .i64 (PY+G2)=PY+G2:=wrap64_id (by omega) (by omega)
    have I':=I.put (a:=PX+G1) (b:=PY+G2) hk (by rw [hPX];omega) (by rw [hPY];omega)
    have hfz':=I'.fz
    have z1':n2*5≤cur.size:=by rw [I.size];exact Nat.le_refl _
    have z2':k*5+3+1≤cur.size:=by rw [I.size];omega
    have z3':k*5+4+1≤(wcells cur (k*5+3) [.int .i64 (PX+G1)]).size:=by rw [size_set,I.size];omega
    have za:∀v:Value,Array.size (⟨[v]⟩:Array Value)=1:=fun v=>rfl
    by_cases hw:isW PX PY=true
    · right
      refine ⟨_,?_,I'⟩
      simp only [rd54_0b,RT.val,Int.ofNat_eq_natCast,Int.toNat_natCast,Nat.zero_add,Nat.add_zero,hki,h0,h3,i0,i1,i2,e0,e1,e2,hb,p1,p2,r2,f1,f2,f3,f4,hs.1,hs.2,w1,w2,d1,g1,hG1,hG2,w3,w4,hfz,hfz',z1',z2',z3',za,hw,arrEq_self,decide_true,decide_false,Bool.and_self,Bool.and_true,Bool.true_and,Bool.not_true,cond_true,cond_false]
    · left
      rw [Bool.not_eq_true]at hw
      refine ⟨_,?_,hfz',I'.size⟩
      simp only [rd54_0b,RT.val,Int.ofNat_eq_natCast,Int.toNat_natCast,Nat.zero_add,Nat.add_zero,hki,h0,h3,i0,i1,i2,e0,e1,e2,hb,p1,p2,r2,f1,f2,f3,f4,hs.1,hs.2,w1,w2,d1,g1,hG1,hG2,w3,w4,hfz,hfz',z1',z2',z3',za,hw,arrEq_self,decide_true,decide_false,Bool.and_self,Bool.and_true,Bool.true_and,Bool.not_true,Bool.not_false,cond_true,cond_false]
theorem loop54 (hv:Vld c0 0 n c 0 n2 age shear)(fl:Fld x y rx ry tx ty w nw):∀(m k:Nat) (cur:Array Value),k+m=n2→Ms c0 c n2 but x y rx ry tx ty age shear k cur →
    (∃A,loopR rd54_0b ⟨but,tick,(k:Int),x,y,rx,ry,tx,ty,w,0,nw,c0,0,n,n2,c3,0,n3,age,shear,z1,z2,cur⟩ =
      some (.k0 false x y rx ry tx ty w 0 nw c0 0 n n2 c3 0 n3 age shear c0 0 n n2 c3 0 n3 age shear A)∧allFz A=true∧A.size=n2*5) ∨
    ∃fin,loopR rd54_0b ⟨but,tick,(k:Int),x,y,rx,ry,tx,ty,w,0,nw,c0,0,n,n2,c3,0,n3,age,shear,z1,z2,cur⟩ =
      some (.k1 tick x y rx ry tx ty w 0 nw c0 0 n n2 c3 0 n3 age shear z1 z2 fin)∧Ms c0 c n2 but x y rx ry tx ty age shear n2 fin
  | 0,k,cur,e,I=>by
    obtain rfl:k=n2:=by omega
    right
    refine ⟨cur,loopR_done ?_,I⟩
    have h1:¬((k:Int)<(k:Int)):=by omega
    simp only [rd54_0b,RT.val,h1,I.fz,Int.ofNat_eq_natCast,decide_false,cond_true,cond_false]
  | m+1,k,cur,e,I=>by
    rcases round54 (n3:=n3) (c3:=c3) (tick:=tick) (z1:=z1) (z2:=z2) hv fl (show k<n2 by omega) I with ⟨A,h1,h2,h3⟩ | ⟨cur',h1,I'⟩
    · exact .inl ⟨A,loopR_done h1,h2,h3⟩
    · rcases loop54 hv fl m (k+1) cur' (by omega) I' with ⟨A,h2,h3,h4⟩ | ⟨fin,h2,I2⟩
      · exact .inl ⟨A,(loopR_next h1).trans h2,h3,h4⟩
      · exact .inr ⟨fin,(loopR_next h1).trans h2,I2⟩
end
section
variable {w c0 c c3 cur:Array Value}{nw n n2 n3:Nat}{but tick x y rx ry tx ty age shear z1 z2:Int}
theorem loop54_1b (gA:0≤age∧age≤1000)(gS:0≤shear∧shear≤1000)(g3:GL L1 1 c3 n3)(few:n3≤1000)(hc:∀k,k<n3→1≤getInt c3 k∧getInt c3 k≤100000000)(ht:0≤tick∧tick≤100000)(fl:Fld x y rx ry tx ty w nw)(hfz:allFz cur=true)(hs:cur.size=n2*5):∀(m k:Nat),k+m=n3 →
    loopR rd54_1b ⟨tick,(k:Int),x,y,rx,ry,tx,ty,w,0,nw,c0,0,n,n2,c3,0,n3,age,shear,z1,z2,cur⟩ =
      some (.k0 false x y rx ry tx ty w 0 nw c0 0 n n2 c3 0 n3 age shear c0 0 n n2 c3 0 n3 age shear cur) ∨
    (loopR rd54_1b ⟨tick,(k:Int),x,y,rx,ry,tx,ty,w,0,nw,c0,0,n,n2,c3,0,n3,age,shear,z1,z2,cur⟩ =
      some (.k1 x y rx ry tx ty w 0 nw c0 0 n n2 c3 0 n3 age shear z1 z2 cur)∧∀i,k≤i→i<n3→isW (pI x rx tx age shear (wLo c3 (i:Int)) tick) (pI y ry ty age shear (wLo c3 (i:Int)) tick)=true)
  | 0,k,e=>by
    obtain rfl:k=n3:=by omega
    right
    refine ⟨loopR_done ?_,fun i h1 h2=>by omega⟩
    have h1:¬((k:Int)<(k:Int)):=by omega
    simp only [rd54_1b,RT.val,h1,hfz,Int.ofNat_eq_natCast,decide_false,cond_true,cond_false]
  | m+1,k,e=>by
    have hki:(k:Int)<(n3:Int):=by omega
    have h3:IntKind.wrap .i64 ((k:Int)+1)=((k+1:Nat):Int):=by rw [wrap64_id (by omega) (by omega)];omega
    have z1':n2*5≤cur.size:=by omega
    have hl:0≤wLo c3 (k:Int)∧wLo c3 (k:Int)≤100000000:=by
      unfold wLo
      split
      · have:=hc ((k:Int)-1).toNat (by omega);omega
      · omega
    obtain ⟨f1,f2,f3,f4⟩:=F55_at (w:=w) (ow:=0) (nw:=nw) (c0:=c0) (c:=cur) (c3:=c3) (n:=n) (n2:=n2) (n3:=n3) (o0:=0) (o2:=0) (o3:=0) (h:=wLo c3 (k:Int)) (k:=tick) fl.x fl.y fl.rx fl.ry fl.tx fl.ty gA gS hl ht
    have key:(rd54_1b ⟨tick,(k:Int),x,y,rx,ry,tx,ty,w,0,nw,c0,0,n,n2,c3,0,n3,age,shear,z1,z2,cur⟩).val =
        (if isW (pI x rx tx age shear (wLo c3 (k:Int)) tick) (pI y ry ty age shear (wLo c3 (k:Int)) tick)=true then some (.inl ⟨tick,((k+1:Nat):Int),x,y,rx,ry,tx,ty,w,0,nw,c0,0,n,n2,c3,0,n3,age,shear,z1,z2,cur⟩)
          else some (.inr (.k0 false x y rx ry tx ty w 0 nw c0 0 n n2 c3 0 n3 age shear c0 0 n n2 c3 0 n3 age shear cur))):=by
      rcases Nat.eq_zero_or_pos k with hk0 | hk0
      · have p0:¬(0:Int)<(k:Int):=by omega
        have el:wLo c3 (k:Int)=0:=by unfold wLo;rw [if_neg p0]
        rw [el]at f1 f4 ⊢
        by_cases hw:isW (pI x rx tx age shear 0 tick) (pI y ry ty age shear 0 tick)=true
        · rw [if_pos hw]
          simp only [rd54_1b,RT.val,Int.ofNat_eq_natCast,Int.toNat_natCast,Nat.zero_add,hki,p0,h3,hfz,z1',f1,f4,hw,decide_true,decide_false,Bool.and_self,Bool.and_true,Bool.true_and,Bool.not_true,cond_true,cond_false]
        · rw [if_neg hw]
          rw [Bool.not_eq_true]at hw
          simp only [rd54_1b,RT.val,Int.ofNat_eq_natCast,Int.toNat_natCast,Nat.zero_add,hki,p0,h3,hfz,z1',f1,f4,hw,decide_true,decide_false,Bool.and_self,Bool.and_true,Bool.true_and,Bool.not_true,Bool.not_false,cond_true,cond_false]
      · have p0:(0:Int)<(k:Int):=by omega
        have p1:IntKind.wrap .i64 ((k:Int)-1)=((k-1:Nat):Int):=by rw [wrap64_id (by omega) (by omega)];omega
        have p2:(0:Int)≤((k-1:Nat):Int):=by omega
        have p3:((k-1:Nat):Int)<(n3:Int):=by omega
        have p4:isInt .i64 c3 (k-1)=true:=g3.int (by omega)
        have el:wLo c3 (k:Int)=getInt c3 (k-1):=by
          unfold wLo
          rw [if_pos p0]
          congr 1;omega
        rw [el]at f1 f4 ⊢
        by_cases hw:isW (pI x rx tx age shear (getInt c3 (k-1)) tick) (pI y ry ty age shear (getInt c3 (k-1)) tick)=true
        · rw [if_pos hw]
          simp only [rd54_1b,RT.val,Int.ofNat_eq_natCast,Int.toNat_natCast,Nat.zero_add,Nat.mul_one,hki,p0,p1,p2,p3,p4,h3,hfz,z1',f1,f4,hw,decide_true,decide_false,Bool.and_self,Bool.and_true,Bool.true_and,Bool.not_true,cond_true,cond_false]
        · rw [if_neg hw]
          rw [Bool.not_eq_true]at hw
          simp only [rd54_1b,RT.val,Int.ofNat_eq_natCast,Int.toNat_natCast,Nat.zero_add,Nat.mul_one,hki,p0,p1,p2,p3,p4,h3,hfz,z1',f1,f4,hw,decide_true,decide_false,Bool.and_self,Bool.and_true,Bool.true_and,Bool.not_true,Bool.not_false,cond_true,cond_false]
    by_cases hw:isW (pI x rx tx age shear (wLo c3 (k:Int)) tick) (pI y ry ty age shear (wLo c3 (k:Int)) tick)=true
    · rw [if_pos hw]at key
      rcases loop54_1b gA gS g3 few hc ht fl hfz hs m (k+1) (by omega) with h | ⟨h,hall⟩
      · exact .inl ((loopR_next key).trans h)
      · refine .inr ⟨(loopR_next key).trans h,fun i h1 h2=>?_⟩
        rcases Nat.eq_or_lt_of_le h1 with rfl | h4
        · exact hw
        · exact hall i (by omega) h2
    · rw [if_neg hw]at key
      exact .inl (loopR_done key)
theorem loop54_1a (gA:0≤age∧age≤1000)(gS:0≤shear∧shear≤1000)(g3:GL L1 1 c3 n3)(few:n3≤1000)(hc:∀k,k<n3→1≤getInt c3 k∧getInt c3 k≤100000000)(ht:0≤tick∧tick≤100000)(fl:Fld x y rx ry tx ty w nw)(hfz:allFz cur=true)(hs:cur.size=n2*5):∀(m k:Nat),k+m=n3 →
    loopR rd54_1a ⟨tick,(k:Int),x,y,rx,ry,tx,ty,w,0,nw,c0,0,n,n2,c3,0,n3,age,shear,z1,z2,cur⟩ =
      some (.k0 false x y rx ry tx ty w 0 nw c0 0 n n2 c3 0 n3 age shear c0 0 n n2 c3 0 n3 age shear cur) ∨
    (loopR rd54_1a ⟨tick,(k:Int),x,y,rx,ry,tx,ty,w,0,nw,c0,0,n,n2,c3,0,n3,age,shear,z1,z2,cur⟩ =
      some (.k1 x y rx ry tx ty w 0 nw c0 0 n n2 c3 0 n3 age shear z1 z2 cur)∧∀i,k≤i→i<n3→isW (pI x rx tx age shear (wLo c3 (i:Int)) tick) (pI y ry ty age shear (wLo c3 (i:Int)) tick)=true)
  | 0,k,e=>by
    obtain rfl:k=n3:=by omega
    right
    refine ⟨loopR_done ?_,fun i h1 h2=>by omega⟩
    have h1:¬((k:Int)<(k:Int)):=by omega
    simp only [rd54_1a,RT.val,h1,hfz,Int.ofNat_eq_natCast,decide_false,cond_true,cond_false]
  | m+1,k,e=>by
    have hki:(k:Int)<(n3:Int):=by omega
    have h3:IntKind.wrap .i64 ((k:Int)+1)=((k+1:Nat):Int):=by rw [wrap64_id (by omega) (by omega)];omega
    have z1':n2*5≤cur.size:=by omega
    have hl:0≤wLo c3 (k:Int)∧wLo c3 (k:Int)≤100000000:=by
      unfold wLo
      split
      · have:=hc ((k:Int)-1).toNat (by omega);omega
      · omega
    obtain ⟨f1,f2,f3,f4⟩:=F55_at (w:=w) (ow:=0) (nw:=nw) (c0:=c0) (c:=cur) (c3:=c3) (n:=n) (n2:=n2) (n3:=n3) (o0:=0) (o2:=0) (o3:=0) (h:=wLo c3 (k:Int)) (k:=tick) fl.x fl.y fl.rx fl.ry fl.tx fl.ty gA gS hl ht
    have key:(rd54_1a ⟨tick,(k:Int),x,y,rx,ry,tx,ty,w,0,nw,c0,0,n,n2,c3,0,n3,age,shear,z1,z2,cur⟩).val =
        (if isW (pI x rx tx age shear (wLo c3 (k:Int)) tick) (pI y ry ty age shear (wLo c3 (k:Int)) tick)=true then some (.inl ⟨tick,((k+1:Nat):Int),x,y,rx,ry,tx,ty,w,0,nw,c0,0,n,n2,c3,0,n3,age,shear,z1,z2,cur⟩)
          else some (.inr (.k0 false x y rx ry tx ty w 0 nw c0 0 n n2 c3 0 n3 age shear c0 0 n n2 c3 0 n3 age shear cur))):=by
      rcases Nat.eq_zero_or_pos k with hk0 | hk0
      · have p0:¬(0:Int)<(k:Int):=by omega
        have el:wLo c3 (k:Int)=0:=by unfold wLo;rw [if_neg p0]
        rw [el]at f1 f4 ⊢
        by_cases hw:isW (pI x rx tx age shear 0 tick) (pI y ry ty age shear 0 tick)=true
        · rw [if_pos hw]
          simp only [rd54_1a,RT.val,Int.ofNat_eq_natCast,Int.toNat_natCast,Nat.zero_add,hki,p0,h3,hfz,z1',f1,f4,hw,decide_true,decide_false,Bool.and_self,Bool.and_true,Bool.true_and,Bool.not_true,cond_true,cond_false]
        · rw [if_neg hw]
          rw [Bool.not_eq_true]at hw
          simp only [rd54_1a,RT.val,Int.ofNat_eq_natCast,Int.toNat_natCast,Nat.zero_add,hki,p0,h3,hfz,z1',f1,f4,hw,decide_true,decide_false,Bool.and_self,Bool.and_true,Bool.true_and,Bool.not_true,Bool.not_false,cond_true,cond_false]
      · have p0:(0:Int)<(k:Int):=by omega
        have p1:IntKind.wrap .i64 ((k:Int)-1)=((k-1:Nat):Int):=by rw [wrap64_id (by omega) (by omega)];omega
        have p2:(0:Int)≤((k-1:Nat):Int):=by omega
        have p3:((k-1:Nat):Int)<(n3:Int):=by omega
        have p4:isInt .i64 c3 (k-1)=true:=g3.int (by omega)
        have el:wLo c3 (k:Int)=getInt c3 (k-1):=by
          unfold wLo
          rw [if_pos p0]
          congr 1;omega
        rw [el]at f1 f4 ⊢
        by_cases hw:isW (pI x rx tx age shear (getInt c3 (k-1)) tick) (pI y ry ty age shear (getInt c3 (k-1)) tick)=true
        · rw [if_pos hw]
          simp only [rd54_1a,RT.val,Int.ofNat_eq_natCast,Int.toNat_natCast,Nat.zero_add,Nat.mul_one,hki,p0,p1,p2,p3,p4,h3,hfz,z1',f1,f4,hw,decide_true,decide_false,Bool.and_self,Bool.and_true,Bool.true_and,Bool.not_true,cond_true,cond_false]
        · rw [if_neg hw]
          rw [Bool.not_eq_true]at hw
          simp only [rd54_1a,RT.val,Int.ofNat_eq_natCast,Int.toNat_natCast,Nat.zero_add,Nat.mul_one,hki,p0,p1,p2,p3,p4,h3,hfz,z1',f1,f4,hw,decide_true,decide_false,Bool.and_self,Bool.and_true,Bool.true_and,Bool.not_true,Bool.not_false,cond_true,cond_false]
    by_cases hw:isW (pI x rx tx age shear (wLo c3 (k:Int)) tick) (pI y ry ty age shear (wLo c3 (k:Int)) tick)=true
    · rw [if_pos hw]at key
      rcases loop54_1a gA gS g3 few hc ht fl hfz hs m (k+1) (by omega) with h | ⟨h,hall⟩
      · exact .inl ((loopR_next key).trans h)
      · refine .inr ⟨(loopR_next key).trans h,fun i h1 h2=>?_⟩
        rcases Nat.eq_or_lt_of_le h1 with rfl | h4
        · exact hw
        · exact hall i (by omega) h2
    · rw [if_neg hw]at key
      exact .inl (loopR_done key)
end
end
end Go.Proofs.Ytfnogghclaijlaa
namespace Go.Proofs.Ytfnogghclaijlaa
open Go.Gi Go.RowKit Go.Proofs.Ytfnogghclaijlaa.Old
noncomputable section
set_option maxRecDepth 100000
set_option maxHeartbeats 4000000
structure R105 where
  (r0:Bool)
structure A105 where
  (a0:Int)
def rt105 (a0:Int):RT R105 :=
  .br (decide ((-20000:Int)≤a0)) (.leaf ⟨(decide (a0≤(20000:Int)))⟩) (.leaf ⟨false⟩)
def en105 (r:R105):Value:=(.bool r.r0)
theorem T105  (a0:Int):evC Try.prog (Ans.c (fun _=>none:Ans)) 60 (.call 105 ⟨[(.int .i64 a0)]⟩ ⟨[],0,[]⟩) (frzK [0])=(rt105 a0).out (fun r=>.ret (en105 r) ⟨[],0,[]⟩):=by kernel_rfl
def F105 (a0:Int):Option R105:=(rt105 a0).val
section
variable (a0:Int)
def F105_ok:Bool:=(F105 a0).isSome
def F105_0:Bool:=match F105 a0 with | some r=>r.r0 | none=>false
end
def dec105:Task→Option (A105×Hp)
  | .call g ⟨[(.int .i64 a0)]⟩ h=>(match Nat.beq g 105 with | true=>some (⟨a0⟩,h) | false=>none)
  | _=>none
def alt105 (x:A105)(h:Hp):AT:=.br (F105_ok x.a0) (.leaf (.ret (.bool (F105_0 x.a0)) h)) .no
def p105:Ans:=fnAns dec105 alt105
theorem ha105:∀(x:A105) (h:Hp)(o:Out),(alt105 x h).out=some o→∃r,(rt105 x.a0).val=some r∧o=.ret (en105 r) h:=by
  intro x h o e
  unfold alt105 at e
  cases hF:F105 x.a0 with
  | none=>simp [F105_ok,hF,AT.out]at e
  | some r =>
    refine ⟨r,hF,?_⟩
    simp only [F105_ok,F105_0,hF,AT.out,Option.isSome_some,cond_true,Option.some.injEq]at e
    rw [← e];rfl
theorem hd105:∀(t:Task) (x:A105)(h:Hp),dec105 t=some (x,h)→t=.call 105 ⟨[(.int .i64 x.a0)]⟩ h:=by
  intro t x h e
  unfold dec105 at e
  split at e
  case h_2=>cases e
  split at e
  case h_2=>cases e
  rename_i hg
  simp only [Option.some.injEq,Prod.mk.injEq]at e
  obtain ⟨rfl,rfl⟩:=e
  rw [Nat.eq_of_beq_eq_true hg]
theorem known105:Known Try.prog p105:=by
  exact Known.fn noNG mixed (Known.nothing Try.prog) (n:=60) (zs:=[0]) 105 (fun x:A105=>[(.int .i64 x.a0)]) (fun x=>rt105 x.a0) en105 (fun x=>T105  x.a0) (fun x=>rfl) dec105 alt105 hd105 ha105
structure R108 where
  (r0:Bool)
structure A108 where
  (a0 a1:Int)
def rt108 (a0 a1:Int):RT R108 :=
  .br (decide (a0≤a1)) (.br (F105_ok a0) (.br (F105_0 a0) (.br (F105_ok a1) (.leaf ⟨(F105_0 a1)⟩) (.no)) (.leaf ⟨false⟩)) (.no)) (.leaf ⟨false⟩)
def en108 (r:R108):Value:=(.bool r.r0)
theorem T108  (a0 a1:Int):evC Try.prog (Ans.c p105) 60 (.call 108 ⟨[(.agg ⟨[(.int .i64 a0),(.int .i64 a1)]⟩)]⟩ ⟨[],0,[]⟩) (frzK [0])=(rt108 a0 a1).out (fun r=>.ret (en108 r) ⟨[],0,[]⟩):=by kernel_rfl
def F108 (a0 a1:Int):Option R108:=(rt108 a0 a1).val
section
variable (a0 a1:Int)
def F108_ok:Bool:=(F108 a0 a1).isSome
def F108_0:Bool:=match F108 a0 a1 with | some r=>r.r0 | none=>false
end
def dec108:Task→Option (A108×Hp)
  | .call g ⟨[(.agg ⟨[(.int .i64 a0),(.int .i64 a1)]⟩)]⟩ h=>(match Nat.beq g 108 with | true=>some (⟨a0,a1⟩,h) | false=>none)
  | _=>none
def alt108 (x:A108)(h:Hp):AT:=.br (F108_ok x.a0 x.a1) (.leaf (.ret (.bool (F108_0 x.a0 x.a1)) h)) .no
def p108:Ans:=fnAns dec108 alt108
theorem ha108:∀(x:A108) (h:Hp)(o:Out),(alt108 x h).out=some o→∃r,(rt108 x.a0 x.a1).val=some r∧o=.ret (en108 r) h:=by
  intro x h o e
  unfold alt108 at e
  cases hF:F108 x.a0 x.a1 with
  | none=>simp [F108_ok,hF,AT.out]at e
  | some r =>
    refine ⟨r,hF,?_⟩
    simp only [F108_ok,F108_0,hF,AT.out,Option.isSome_some,cond_true,Option.some.injEq]at e
    rw [← e];rfl
theorem hd108:∀(t:Task) (x:A108)(h:Hp),dec108 t=some (x,h)→t=.call 108 ⟨[(.agg ⟨[(.int .i64 x.a0),(.int .i64 x.a1)]⟩)]⟩ h:=by
  intro t x h e
  unfold dec108 at e
  split at e
  case h_2=>cases e
  split at e
  case h_2=>cases e
  rename_i hg
  simp only [Option.some.injEq,Prod.mk.injEq]at e
  obtain ⟨rfl,rfl⟩:=e
  rw [Nat.eq_of_beq_eq_true hg]
theorem known108:Known Try.prog p108:=by
  exact Known.fn noNG mixed known105 (n:=60) (zs:=[0]) 108 (fun x:A108=>[(.agg ⟨[(.int .i64 x.a0),(.int .i64 x.a1)]⟩)]) (fun x=>rt108 x.a0 x.a1) en108 (fun x=>T108  x.a0 x.a1) (fun x=>rfl) dec108 alt108 hd108 ha108
structure R68 where
  (r0:Int)
structure A68 where
  (a0 a1:Int)
  (a2 a3:Int)
  (a4 a5 a6:Int)
def rt68 (a0 a1:Int)(a2 a3:Int)(a4 a5 a6:Int):RT R68 :=
  .br (not (decide (a0=a6))) (.leaf ⟨(2:Int)⟩) (.br (decide (a1≤a0)) (.leaf ⟨(7:Int)⟩) (.br (decide ((100000000:Int)<a1)) (.leaf ⟨(7:Int)⟩) (.br (F108_ok a2 a3) (.br (not (F108_0 a2 a3)) (.leaf ⟨(7:Int)⟩) (.br (F108_ok a4 a5) (.br (not (F108_0 a4 a5)) (.leaf ⟨(7:Int)⟩) (.leaf ⟨(0:Int)⟩)) (.no))) (.no))))
def en68 (r:R68):Value:=(.int .i64 r.r0)
theorem T68  (a0 a1:Int) (a2 a3:Int) (a4 a5 a6:Int):evC Try.prog (Ans.c p108) 60 (.call 68 ⟨[(.agg ⟨[(.int .i64 a0),(.int .i64 a1),(.int .i64 a2),(.int .i64 a3),(.int .i64 a4),(.int .i64 a5)]⟩),(.int .i64 a6)]⟩ ⟨[],0,[]⟩) (frzK [0])=(rt68 a0 a1 a2 a3 a4 a5 a6).out (fun r=>.ret (en68 r) ⟨[],0,[]⟩):=by kernel_rfl
def F68 (a0 a1:Int)(a2 a3:Int)(a4 a5 a6:Int):Option R68:=(rt68 a0 a1 a2 a3 a4 a5 a6).val
section
variable (a0 a1:Int) (a2 a3:Int) (a4 a5 a6:Int)
def F68_ok:Bool:=(F68 a0 a1 a2 a3 a4 a5 a6).isSome
def F68_0:Int:=match F68 a0 a1 a2 a3 a4 a5 a6 with | some r=>r.r0 | none=>0
end
def dec68:Task→Option (A68×Hp)
  | .call g ⟨[(.agg ⟨[(.int .i64 a0),(.int .i64 a1),(.int .i64 a2),(.int .i64 a3),(.int .i64 a4),(.int .i64 a5)]⟩),(.int .i64 a6)]⟩ h=>(match Nat.beq g 68 with | true=>some (⟨a0,a1,a2,a3,a4,a5,a6⟩,h) | false=>none)
  | _=>none
def alt68 (x:A68)(h:Hp):AT:=.br (F68_ok x.a0 x.a1 x.a2 x.a3 x.a4 x.a5 x.a6) (.leaf (.ret (.int .i64 (F68_0 x.a0 x.a1 x.a2 x.a3 x.a4 x.a5 x.a6)) h)) .no
def p68:Ans:=fnAns dec68 alt68
theorem ha68:∀(x:A68) (h:Hp)(o:Out),(alt68 x h).out=some o→∃r,(rt68 x.a0 x.a1 x.a2 x.a3 x.a4 x.a5 x.a6).val=some r∧o=.ret (en68 r) h:=by
  intro x h o e
  unfold alt68 at e
  cases hF:F68 x.a0 x.a1 x.a2 x.a3 x.a4 x.a5 x.a6 with
  | none=>simp [F68_ok,hF,AT.out]at e
  | some r =>
    refine ⟨r,hF,?_⟩
    simp only [F68_ok,F68_0,hF,AT.out,Option.isSome_some,cond_true,Option.some.injEq]at e
    rw [← e];rfl
theorem hd68:∀(t:Task) (x:A68)(h:Hp),dec68 t=some (x,h)→t=.call 68 ⟨[(.agg ⟨[(.int .i64 x.a0),(.int .i64 x.a1),(.int .i64 x.a2),(.int .i64 x.a3),(.int .i64 x.a4),(.int .i64 x.a5)]⟩),(.int .i64 x.a6)]⟩ h:=by
  intro t x h e
  unfold dec68 at e
  split at e
  case h_2=>cases e
  split at e
  case h_2=>cases e
  rename_i hg
  simp only [Option.some.injEq,Prod.mk.injEq]at e
  obtain ⟨rfl,rfl⟩:=e
  rw [Nat.eq_of_beq_eq_true hg]
theorem known68:Known Try.prog p68:=by
  exact Known.fn noNG mixed known108 (n:=60) (zs:=[0]) 68 (fun x:A68=>[(.agg ⟨[(.int .i64 x.a0),(.int .i64 x.a1),(.int .i64 x.a2),(.int .i64 x.a3),(.int .i64 x.a4),(.int .i64 x.a5)]⟩),(.int .i64 x.a6)]) (fun x=>rt68 x.a0 x.a1 x.a2 x.a3 x.a4 x.a5 x.a6) en68 (fun x=>T68  x.a0 x.a1 x.a2 x.a3 x.a4 x.a5 x.a6) (fun x=>rfl) dec68 alt68 hd68 ha68
structure X25_0 where
  (v0:Int)
  (v1:Array Value)
  (v2 v3:Nat)
  (v4 v5:Int)
inductive D25_0 where
  | k0 (d0 d1:Int)
  | k1
def Lp25_0:LoopOf X25_0 D25_0 where
  c:=(theLoop Try.prog 25 0)
  N:=33
  M:=0
  S:=[4,16,17,18]
  sl:=fun x=>[(.int .i64 x.v0),(lstV x.v1 x.v2 x.v3 6),(.int .i64 x.v4),(.int .i64 x.v5)]
  hp:=fun x=>[]
  ex:=fun d=>match d with | .k0 ..=>.ret | .k1 ..=>.exit 0
  pick:=fun e=>match e with | .ret=>[2,3] | .exit 0=>[] | _=>[]
  dv:=fun d=>match d with | .k0 d0 d1=>[(.int .i64 d0),(.int .i64 d1)] | .k1 =>[]
  dh:=fun d=>match d with | .k0 d0 d1=>[] | .k1 =>[]
theorem ok25_0:Lp25_0.Ok:=⟨fun x=>rfl,fun x=>rfl,fun x=>rfl,fun x=>rfl,fun d=>by cases d<;>rfl,fun d=>by cases d<;>rfl,fun d=>by cases d<;>rfl,fun d=>by cases d<;>(intro h;cases h),fun d=>by cases d<;>rfl,fun d=>by cases d<;>rfl⟩
def rd25_0 (x:X25_0):RT (Sum X25_0 D25_0):=match x with
  | ⟨v0,v1,v2,v3,v4,v5⟩ =>
     .br (decide (v5<v4)) (.br (and (decide ((0:Int)≤v5)) (decide (v5<(Int.ofNat v3)))) (.br (rdOk v1 [(Leaf.int .i64),(Leaf.int .i64),(Leaf.int .i64),(Leaf.int .i64),(Leaf.int .i64),(Leaf.int .i64)] (v2+((Int.toNat v5)*6))) (.br (F68_ok (getInt v1 (v2+((Int.toNat v5)*6))) (getInt v1 ((v2+((Int.toNat v5)*6))+1)) (getInt v1 (((v2+((Int.toNat v5)*6))+1)+1)) (getInt v1 ((((v2+((Int.toNat v5)*6))+1)+1)+1)) (getInt v1 (((((v2+((Int.toNat v5)*6))+1)+1)+1)+1)) (getInt v1 ((((((v2+((Int.toNat v5)*6))+1)+1)+1)+1)+1)) v0)
     (.br (not (decide ((F68_0 (getInt v1 (v2+((Int.toNat v5)*6))) (getInt v1 ((v2+((Int.toNat v5)*6))+1)) (getInt v1 (((v2+((Int.toNat v5)*6))+1)+1)) (getInt v1 ((((v2+((Int.toNat v5)*6))+1)+1)+1)) (getInt v1 (((((v2+((Int.toNat v5)*6))+1)+1)+1)+1)) (getInt v1 ((((((v2+((Int.toNat v5)*6))+1)+1)+1)+1)+1)) v0)=(0:Int)))) (.leaf (.inr (.k0 v5 ((F68_0 (getInt v1 (v2+((Int.toNat v5)*6))) (getInt v1 ((v2+((Int.toNat v5)*6))+1)) (getInt v1 (((v2+((Int.toNat v5)*6))+1)+1)) (getInt v1 ((((v2+((Int.toNat v5)*6))+1)+1)+1)) (getInt v1 (((((v2+((Int.toNat v5)*6))+1)+1)+1)+1)) (getInt v1 ((((((v2+((Int.toNat v5)*6))+1)+1)+1)+1)+1)) v0))))) (.leaf (.inl ⟨(getInt v1 ((v2+((Int.toNat v5)*6))+1)),v1,v2,v3,v4,(IntKind.wrap .i64 (v5+(1:Int)))⟩))) (.no)) (.no)) (.no)) (.leaf (.inr (.k1)))
theorem T25_0  (y:List Value) (v0:Int) (v1:Array Value) (v2 v3:Nat) (v4 v5:Int):evC Try.prog (Ans.c p68) 60 (.code none (theLoop Try.prog 25 0) ⟨sets (junkF 33 y) [(4,(.int .i64 v0)),(16,(lstV v1 v2 v3 6)),(17,(.int .i64 v4)),(18,(.int .i64 v5))],[],⟨[],0,[]⟩⟩) (sumK 0 33 Lp25_0.pk)=(rd25_0 ⟨v0,v1,v2,v3,v4,v5⟩).out Lp25_0.enc:=by kernel_rfl
def L25_0 (x:X25_0):Option D25_0:=loopR rd25_0 x
section
variable (x:X25_0)
def L25_0_k0:Bool:=match L25_0 x with | some (.k0 ..)=>true | _=>false
def Qk0:Int:=match L25_0 x with | some (.k0 d _)=>d | _=>0
def Qk1:Int:=match L25_0 x with | some (.k0 _ d)=>d | _=>0
def L25_0_k1:Bool:=match L25_0 x with | some (.k1 ..)=>true | _=>false
end
def dec25_0:Task→Option (Code×X25_0)
  | .code none (.loop code) ⟨t,[],⟨[],0,[]⟩⟩ =>
    (match Nat.beq (firstReg code) 5,lenIs t 33,lget t 4,lget t 16,lget t 17,lget t 18 with
    | true,true,(.int .i64 v0),(.func (.via 0 ⟨[]⟩ 0 true) v1 ⟨[.slice (some ⟨0,v2,none⟩) v3 6]⟩),(.int .i64 v4),(.int .i64 v5)=>some (code,⟨v0,v1,v2,v3,v4,v5⟩)
    | _,_,_,_,_,_=>none)
  | _=>none
def alt25_0 (x:X25_0)(j:List Value):AT:=.br (L25_0_k0 x) (loopEnd 33 (.ret) [(2,(.int .i64 (Qk0 x))),(3,(.int .i64 (Qk1 x)))] ⟨[],0,[]⟩ j) (.br (L25_0_k1 x) (loopEnd 33 (.exit 0) [] ⟨[],0,[]⟩ j) (.no))
def la25_0 (J:Task→List Value):Ans:=loopAns Lp25_0.c dec25_0 alt25_0 J
theorem ha25_0:∀(x:X25_0) (j:List Value)(o:Out),(alt25_0 x j).out=some o→∃d,loopR rd25_0 x=some d∧o=Lp25_0.tail d j:=by
  intro x j o h
  unfold alt25_0 at h
  cases hL:L25_0 x with
  | none=>simp [L25_0_k0,Qk0,Qk1,L25_0_k1,hL,AT.out]at h
  | some d =>
    refine ⟨d,hL,?_⟩
    cases d<;>(simp only [L25_0_k0,Qk0,Qk1,L25_0_k1,hL,AT.out,loopEnd,cond_true,cond_false,Option.some.injEq]at h;rw [← h];rfl)
theorem hd25_0:∀(t:Task) (c:Code)(x:X25_0),dec25_0 t=some (c,x)→c=Lp25_0.c→∃T,t=.code none (.loop Lp25_0.c) ⟨T,[],⟨Lp25_0.hp x,0,[]⟩⟩∧T.length=Lp25_0.N∧∀kv∈Lp25_0.S.zip (Lp25_0.sl x),lget T kv.1=kv.2:=by
  intro t c x h hc
  unfold dec25_0 at h
  split at h
  case h_2=>cases h
  split at h
  case h_2=>cases h
  simp only [Option.some.injEq,Prod.mk.injEq]at h
  obtain ⟨rfl,rfl⟩:=h
  subst hc
  refine ⟨_,rfl,lenIs_eq _ _ (by assumption),?_⟩
  intro kv hk
  simp only [Lp25_0,List.zip_cons_cons,List.zip_nil_right,List.mem_cons,List.not_mem_nil,or_false]at hk
  rcases hk with rfl | rfl | rfl | rfl<;>assumption
theorem kl25_0:∃J,Known Try.prog (la25_0 J):=by
  exact LoopOf.known noNG mixed ok25_0 (by decide) (by decide) known68 (n:=60) (rd:=rd25_0) (fun x j=>T25_0  j x.v0 x.v1 x.v2 x.v3 x.v4 x.v5) dec25_0 alt25_0 hd25_0 ha25_0
structure R25 where
  (r0 r1:Int)
structure A25 where
  (a0:Array Value)
  (a1 a2:Nat)
def rt25 (a0:Array Value)(a1 a2:Nat):RT R25 :=
  .br (decide ((Int.ofNat a2)<(1:Int))) (.leaf ⟨(0:Int),(3:Int)⟩) (.br (decide ((20:Int)<(Int.ofNat a2))) (.leaf ⟨(0:Int),(3:Int)⟩) (.br (eqCode (Lp25_0.c) (Lp25_0.c)) (.br (L25_0_k0 (X25_0.mk (0:Int) a0 a1 a2 (Int.ofNat a2) (0:Int))) (.leaf ⟨(Qk0 (X25_0.mk (0:Int) a0 a1 a2 (Int.ofNat a2) (0:Int))),(Qk1 (X25_0.mk (0:Int) a0 a1 a2 (Int.ofNat a2) (0:Int)))⟩) (.br (L25_0_k1 (X25_0.mk (0:Int) a0 a1 a2 (Int.ofNat a2) (0:Int))) (.leaf ⟨(0:Int),(0:Int)⟩) (.no))) (.no)))
def en25 (r:R25):Value:=(.tuple ⟨[(.int .i64 r.r0),(.int .i64 r.r1)]⟩)
theorem T25 (J0:Task→List Value)(a0:Array Value)(a1 a2:Nat):evC Try.prog (Ans.c (p68.or (la25_0 J0))) 60 (.call 25 ⟨[(lstV a0 a1 a2 6)]⟩ ⟨[],0,[]⟩) (frzK [0,0])=(rt25 a0 a1 a2).out (fun r=>.ret (en25 r) ⟨[],0,[]⟩):=by kernel_rfl
def F25 (a0:Array Value)(a1 a2:Nat):Option R25:=(rt25 a0 a1 a2).val
section
variable (a0:Array Value) (a1 a2:Nat)
def F25_ok:Bool:=(F25 a0 a1 a2).isSome
def F25_0:Int:=match F25 a0 a1 a2 with | some r=>r.r0 | none=>0
def F25_1:Int:=match F25 a0 a1 a2 with | some r=>r.r1 | none=>0
end
def dec25:Task→Option (A25×Hp)
  | .call g ⟨[(.func (.via 0 ⟨[]⟩ 0 true) a0 ⟨[.slice (some ⟨0,a1,none⟩) a2 6]⟩)]⟩ h=>(match Nat.beq g 25 with | true=>some (⟨a0,a1,a2⟩,h) | false=>none)
  | _=>none
def alt25 (x:A25)(h:Hp):AT:=.br (F25_ok x.a0 x.a1 x.a2) (.leaf (.ret (.tuple ⟨[(.int .i64 (F25_0 x.a0 x.a1 x.a2)),(.int .i64 (F25_1 x.a0 x.a1 x.a2))]⟩) h)) .no
def p25:Ans:=fnAns dec25 alt25
theorem ha25:∀(x:A25) (h:Hp)(o:Out),(alt25 x h).out=some o→∃r,(rt25 x.a0 x.a1 x.a2).val=some r∧o=.ret (en25 r) h:=by
  intro x h o e
  unfold alt25 at e
  cases hF:F25 x.a0 x.a1 x.a2 with
  | none=>simp [F25_ok,hF,AT.out]at e
  | some r =>
    refine ⟨r,hF,?_⟩
    simp only [F25_ok,F25_0,F25_1,hF,AT.out,Option.isSome_some,cond_true,Option.some.injEq]at e
    rw [← e];rfl
theorem hd25:∀(t:Task) (x:A25)(h:Hp),dec25 t=some (x,h)→t=.call 25 ⟨[(lstV x.a0 x.a1 x.a2 6)]⟩ h:=by
  intro t x h e
  unfold dec25 at e
  split at e
  case h_2=>cases e
  split at e
  case h_2=>cases e
  rename_i hg
  simp only [Option.some.injEq,Prod.mk.injEq]at e
  obtain ⟨rfl,rfl⟩:=e
  rw [Nat.eq_of_beq_eq_true hg]
theorem known25:Known Try.prog p25:=by
  obtain ⟨J0,hJ0⟩:=kl25_0
  exact Known.fn noNG mixed (Known.or known68 hJ0) (n:=60) (zs:=[0,0]) 25 (fun x:A25=>[(lstV x.a0 x.a1 x.a2 6)]) (fun x=>rt25 x.a0 x.a1 x.a2) en25 (fun x=>T25 J0 x.a0 x.a1 x.a2) (fun x=>rfl) dec25 alt25 hd25 ha25
structure X42_0 where
  own:Option (Array Value×Nat)
  (v0:Array Value)
  (v1 v2:Nat)
  (v3 v4:Int)
  (v5:Array Value)
  (v6 v7:Nat)
  (v8:Array Value)
  (v9 v10:Nat)
  (v11:Array Value)
  (v12 v13:Nat)
  (v14 v15:Int)
  (v16 v17:Int)
  (v18 v19:Int)
inductive D42_0 where
  | k0 (d0:Array Value) (d1 d2:Nat) (d3:Int) (d4:Array Value) (d5 d6:Nat) (d7:Array Value) (d8 d9:Nat) (d10:Array Value) (d11 d12:Nat) (d13 d14:Int) (d15 d16:Int) (d17 d18:Int)
  | k1 (d0:Array Value) (d1 d2:Nat) (d3:Array Value) (d4 d5:Nat) (d6:Array Value) (d7 d8:Nat) (d9:Array Value) (d10 d11:Nat) (d12 d13:Int) (d14 d15:Int) (d16 d17:Int)
def Lp42_0:LoopG X42_0 D42_0 where
  c:=(theLoop Try.prog 42 0)
  N:=66
  M:=2
  S:=[3,11,34,35,36]
  os:=12
  sz:=6
  z:=6
  own:=fun x=>x.own
  sl:=fun x=>[(Value.pointer (Option.some (Addr.mk 0 0 Option.none))),(Value.pointer (Option.some (Addr.mk 1 0 Option.none))),(lstV x.v0 x.v1 x.v2 1),(.int .i64 x.v3),(.int .i64 x.v4)]
  hp:=fun x=>[.cells ⟨[(lstV x.v5 x.v6 x.v7 7),(lstV x.v8 x.v9 x.v10 5),(lstV x.v11 x.v12 x.v13 1),(.int .i64 x.v14),(.int .i64 x.v15)]⟩ false,.cells ⟨[(.int .i64 x.v16),(.int .i64 x.v17),(.int .i64 x.v18),(.int .i64 x.v19)]⟩ false]
  ex:=fun d=>match d with | .k0 ..=>.ret | .k1 ..=>.exit 0
  pick:=fun e=>match e with | .ret=>[6,7] | .exit 0=>[12] | _=>[]
  dv:=fun d=>match d with | .k0 d0 d1 d2 d3 d4 d5 d6 d7 d8 d9 d10 d11 d12 d13 d14 d15 d16 d17 d18=>[(lstV d0 d1 d2 6),(.int .i64 d3)] | .k1 d0 d1 d2 d3 d4 d5 d6 d7 d8 d9 d10 d11 d12 d13 d14 d15 d16 d17=>[(lstV d0 d1 d2 6)]
  dh:=fun d=>match d with | .k0 d0 d1 d2 d3 d4 d5 d6 d7 d8 d9 d10 d11 d12 d13 d14 d15 d16 d17 d18=>[.cells ⟨[(lstV d4 d5 d6 7),(lstV d7 d8 d9 5),(lstV d10 d11 d12 1),(.int .i64 d13),(.int .i64 d14)]⟩ false,.cells ⟨[(.int .i64 d15),(.int .i64 d16),(.int .i64 d17),(.int .i64 d18)]⟩ false] | .k1 d0 d1 d2 d3 d4 d5 d6 d7 d8 d9 d10 d11 d12 d13 d14 d15 d16 d17=>[.cells ⟨[(lstV d3 d4 d5 7),(lstV d6 d7 d8 5),(lstV d9 d10 d11 1),(.int .i64 d12),(.int .i64 d13)]⟩ false,.cells ⟨[(.int .i64 d14),(.int .i64 d15),(.int .i64 d16),(.int .i64 d17)]⟩ false]
theorem ok42_0:Lp42_0.OkG:=⟨⟨fun x=>rfl,fun x=>rfl,fun x=>rfl,fun x=>rfl,fun d=>by cases d<;>rfl,fun d=>by cases d<;>rfl,fun d=>by cases d<;>rfl,fun d=>by cases d<;>(intro h;cases h),fun d=>by cases d<;>rfl,fun d=>by cases d<;>rfl⟩,by decide,by decide,fun d=>match d with | .k0 ..=>(show ([6,7]:List Nat).Nodup by decide) | .k1 ..=>(show ([12]:List Nat).Nodup by decide),fun d=>match d with | .k0 ..=>(show ∀k∈([6,7]:List Nat),k<66 by decide) | .k1 ..=>(show ∀k∈([12]:List Nat),k<66 by decide)⟩
def rd42_0 (x:X42_0):RT (Sum X42_0 D42_0):=match x with
  | ⟨none,v0,v1,v2,v3,v4,v5,v6,v7,v8,v9,v10,v11,v12,v13,v14,v15,v16,v17,v18,v19⟩ =>
     .br (decide (v4<v3)) (.br (and (decide ((0:Int)≤v4)) (decide (v4<(Int.ofNat v2)))) (.br (isInt .i64 v0 (v1+((Int.toNat v4)*1))) (.br (F94_ok v5 v6 v7 v8 v9 v10 v11 v12 v13 v14 v15 v4) (.br (F92_ok v5 v6 v7 v8 v9 v10 v11 v12 v13 v14 v15 (F94_0 v5 v6 v7 v8 v9 v10 v11 v12 v13 v14 v15 v4) (F94_1 v5 v6 v7 v8 v9 v10 v11 v12 v13 v14 v15 v4) v18 v19)
     (.br (not (F92_4 v5 v6 v7 v8 v9 v10 v11 v12 v13 v14 v15 (F94_0 v5 v6 v7 v8 v9 v10 v11 v12 v13 v14 v15 v4) (F94_1 v5 v6 v7 v8 v9 v10 v11 v12 v13 v14 v15 v4) v18 v19)) (.leaf (.inr (.k0 (⟨[]⟩) 0 0 ((9:Int)) v5 v6 v7 v8 v9 v10 v11 v12 v13 v14 v15 ((F94_0 v5 v6 v7 v8 v9 v10 v11 v12 v13 v14 v15 v4)) ((F94_1 v5 v6 v7 v8 v9 v10 v11 v12 v13 v14 v15 v4)) v18 v19))) (.leaf (.inl ⟨(some ((Array.extract ⟨[(.int .i64 (F94_0 v5 v6 v7 v8 v9 v10 v11 v12 v13 v14 v15 v4)),(.int .i64 (getInt v0 (v1+((Int.toNat v4)*1)))),(.int .i64 (F92_0 v5 v6 v7 v8 v9 v10 v11 v12 v13 v14 v15 (F94_0 v5 v6 v7 v8 v9 v10 v11 v12 v13 v14 v15 v4) (F94_1 v5 v6 v7 v8 v9 v10 v11 v12 v13 v14 v15 v4) v18 v19)),(.int .i64 (F92_1 v5 v6 v7 v8 v9 v10 v11 v12 v13 v14 v15 (F94_0 v5 v6 v7 v8 v9 v10 v11 v12 v13 v14 v15 v4) (F94_1 v5 v6 v7 v8 v9 v10 v11 v12 v13 v14 v15 v4) v18 v19)),(.int .i64 (F92_2 v5 v6 v7 v8 v9 v10 v11 v12 v13 v14 v15 (F94_0 v5 v6 v7 v8 v9 v10 v11 v12 v13 v14 v15 v4) (F94_1 v5 v6 v7 v8 v9 v10 v11 v12 v13 v14 v15 v4) v18 v19)),(.int .i64 (F92_3 v5 v6 v7 v8 v9 v10 v11 v12 v13 v14 v15 (F94_0 v5 v6 v7 v8 v9 v10 v11 v12 v13 v14 v15 v4) (F94_1 v5 v6 v7 v8 v9 v10 v11 v12 v13 v14 v15 v4) v18 v19))]⟩ 0 6),1)),v0,v1,v2,v3,(IntKind.wrap .i64 (v4+(1:Int))),v5,v6,v7,v8,v9,v10,v11,v12,v13,v14,v15,(F94_0 v5 v6 v7 v8 v9 v10 v11 v12 v13 v14 v15 v4),(F94_1 v5 v6 v7 v8 v9 v10 v11 v12 v13 v14 v15 v4),v18,v19⟩))) (.no)) (.no)) (.no)) (.no)) (.leaf (.inr (.k1 (⟨[]⟩) 0 0 v5 v6 v7 v8 v9 v10 v11 v12 v13 v14 v15 v16 v17 v18 v19)))
  | ⟨some (oa,ol),v0,v1,v2,v3,v4,v5,v6,v7,v8,v9,v10,v11,v12,v13,v14,v15,v16,v17,v18,v19⟩ =>
     .br (decide (v4<v3)) (.br (and (decide ((0:Int)≤v4)) (decide (v4<(Int.ofNat v2)))) (.br (isInt .i64 v0 (v1+((Int.toNat v4)*1))) (.br (F94_ok v5 v6 v7 v8 v9 v10 v11 v12 v13 v14 v15 v4) (.br (F92_ok v5 v6 v7 v8 v9 v10 v11 v12 v13 v14 v15 (F94_0 v5 v6 v7 v8 v9 v10 v11 v12 v13 v14 v15 v4) (F94_1 v5 v6 v7 v8 v9 v10 v11 v12 v13 v14 v15 v4) v18 v19) (.br (not (F92_4 v5 v6 v7 v8 v9 v10 v11 v12 v13 v14 v15 (F94_0 v5 v6 v7 v8 v9 v10 v11 v12 v13 v14 v15 v4) (F94_1 v5 v6 v7 v8 v9 v10 v11 v12 v13 v14 v15 v4) v18 v19)) (.leaf (.inr (.k0 (⟨[]⟩) 0 0 ((9:Int)) v5 v6 v7 v8 v9 v10 v11 v12 v13 v14 v15 ((F94_0 v5 v6 v7 v8 v9 v10 v11 v12 v13 v14 v15 v4)) ((F94_1 v5 v6 v7 v8 v9 v10 v11 v12 v13 v14 v15 v4)) v18 v19))) (.br (and (decide (((ol+1)*48)≤140737488355328)) (decide ((ol+1)≤4611686018427387904))) (.br (decide ((0+(ol*6))≤(Array.size oa)))
     (.br (allFz (apB (Array.extract oa 0 (0+(ol*6))) (Array.extract ⟨[(.int .i64 (F94_0 v5 v6 v7 v8 v9 v10 v11 v12 v13 v14 v15 v4)),(.int .i64 (getInt v0 (v1+((Int.toNat v4)*1)))),(.int .i64 (F92_0 v5 v6 v7 v8 v9 v10 v11 v12 v13 v14 v15 (F94_0 v5 v6 v7 v8 v9 v10 v11 v12 v13 v14 v15 v4) (F94_1 v5 v6 v7 v8 v9 v10 v11 v12 v13 v14 v15 v4) v18 v19)),(.int .i64 (F92_1 v5 v6 v7 v8 v9 v10 v11 v12 v13 v14 v15 (F94_0 v5 v6 v7 v8 v9 v10 v11 v12 v13 v14 v15 v4) (F94_1 v5 v6 v7 v8 v9 v10 v11 v12 v13 v14 v15 v4) v18 v19)),(.int .i64 (F92_2 v5 v6 v7 v8 v9 v10 v11 v12 v13 v14 v15 (F94_0 v5 v6 v7 v8 v9 v10 v11 v12 v13 v14 v15 v4) (F94_1 v5 v6 v7 v8 v9 v10 v11 v12 v13 v14 v15 v4) v18 v19)),(.int .i64 (F92_3 v5 v6 v7 v8 v9 v10 v11 v12 v13 v14 v15 (F94_0 v5 v6 v7 v8 v9 v10 v11 v12 v13 v14 v15 v4) (F94_1 v5 v6 v7 v8 v9 v10 v11 v12 v13 v14 v15 v4) v18 v19))]⟩ 0 6))) (.leaf (.inl ⟨(some ((apB (Array.extract oa 0 (0+(ol*6))) (Array.extract ⟨[(.int .i64 (F94_0 v5 v6 v7 v8 v9 v10 v11 v12 v13 v14 v15 v4)),(.int .i64 (getInt v0 (v1+((Int.toNat v4)*1)))),(.int .i64 (F92_0 v5 v6 v7 v8 v9 v10 v11 v12 v13 v14 v15 (F94_0 v5 v6 v7 v8 v9 v10 v11 v12 v13 v14 v15 v4) (F94_1 v5 v6 v7 v8 v9 v10 v11 v12 v13 v14 v15 v4) v18 v19)),(.int .i64 (F92_1 v5 v6 v7 v8 v9 v10 v11 v12 v13 v14 v15 (F94_0 v5 v6 v7 v8 v9 v10 v11 v12 v13 v14 v15 v4) (F94_1 v5 v6 v7 v8 v9 v10 v11 v12 v13 v14 v15 v4) v18 v19)),(.int .i64 (F92_2 v5 v6 v7 v8 v9 v10 v11 v12 v13 v14 v15 (F94_0 v5 v6 v7 v8 v9 v10 v11 v12 v13 v14 v15 v4) (F94_1 v5 v6 v7 v8 v9 v10 v11 v12 v13 v14 v15 v4) v18 v19)),(.int .i64 (F92_3 v5 v6 v7 v8 v9 v10 v11 v12 v13 v14 v15 (F94_0 v5 v6 v7 v8 v9 v10 v11 v12 v13 v14 v15 v4) (F94_1 v5 v6 v7 v8 v9 v10 v11 v12 v13 v14 v15 v4) v18 v19))]⟩ 0 6)),(ol+1))),v0,v1,v2,v3,(IntKind.wrap .i64 (v4+(1:Int))),v5,v6,v7,v8,v9,v10,v11,v12,v13,v14,v15,(F94_0 v5 v6 v7 v8 v9 v10 v11 v12 v13 v14 v15 v4),(F94_1 v5 v6 v7 v8 v9 v10 v11 v12 v13 v14 v15 v4),v18,v19⟩)) (.no)) (.no)) (.no))) (.no)) (.no)) (.no)) (.no))
     (.br (and (allFz oa) (decide ((0+(ol*6))≤(Array.size oa)))) (.leaf (.inr (.k1 oa 0 ol v5 v6 v7 v8 v9 v10 v11 v12 v13 v14 v15 v16 v17 v18 v19))) (.no))
theorem T42_0n  (y:List Value) (v0:Array Value) (v1 v2:Nat) (v3 v4:Int) (v5:Array Value) (v6 v7:Nat) (v8:Array Value) (v9 v10:Nat) (v11:Array Value) (v12 v13:Nat) (v14 v15:Int) (v16 v17:Int) (v18 v19:Int):evC Try.prog (Ans.c ((p20V 20).or (p91.or (p92.or p94)))) 60 (.code none (theLoop Try.prog 42 0) ⟨sets (junkF 66 y) [(12,.slice none 0 0),(3,(Value.pointer (some (Addr.mk 0 0 none)))),(11,(Value.pointer (some (Addr.mk 1 0 none)))),(34,(lstV v0 v1 v2 1)),(35,(.int .i64 v3)),(36,(.int .i64 v4))],[],⟨[.cells ⟨[(lstV v5 v6 v7 7),(lstV v8 v9 v10 5),(lstV v11 v12 v13 1),(.int .i64 v14),(.int .i64 v15)]⟩ false,.cells ⟨[(.int .i64 v16),(.int .i64 v17),(.int .i64 v18),(.int .i64 v19)]⟩ false],0,[]⟩⟩) (gK 66 2 12 6 [3,11,34,35,36] Lp42_0.pick)=(rd42_0 ⟨none,v0,v1,v2,v3,v4,v5,v6,v7,v8,v9,v10,v11,v12,v13,v14,v15,v16,v17,v18,v19⟩).out Lp42_0.encG:=by kernel_rfl
theorem T42_0s  (y:List Value) (oa:Array Value) (ol:Nat) (v0:Array Value) (v1 v2:Nat) (v3 v4:Int) (v5:Array Value) (v6 v7:Nat) (v8:Array Value) (v9 v10:Nat) (v11:Array Value) (v12 v13:Nat) (v14 v15:Int) (v16 v17:Int) (v18 v19:Int):evC Try.prog (Ans.c ((p20V 20).or (p91.or (p92.or p94)))) 60 (.code none (theLoop Try.prog 42 0) ⟨sets (junkF 66 y) [(12,.slice (some ⟨2,0,none⟩) ol 6),(3,(Value.pointer (some (Addr.mk 0 0 none)))),(11,(Value.pointer (some (Addr.mk 1 0 none)))),(34,(lstV v0 v1 v2 1)),(35,(.int .i64 v3)),(36,(.int .i64 v4))],[],⟨[.cells ⟨[(lstV v5 v6 v7 7),(lstV v8 v9 v10 5),(lstV v11 v12 v13 1),(.int .i64 v14),(.int .i64 v15)]⟩ false,.cells ⟨[(.int .i64 v16),(.int .i64 v17),(.int .i64 v18),(.int .i64 v19)]⟩ false,.cells oa false],0,[]⟩⟩) (gK 66 2 12 6 [3,11,34,35,36] Lp42_0.pick)=(rd42_0 ⟨some (oa,ol),v0,v1,v2,v3,v4,v5,v6,v7,v8,v9,v10,v11,v12,v13,v14,v15,v16,v17,v18,v19⟩).out Lp42_0.encG:=by kernel_rfl
theorem T42_0  (x:X42_0) (y:List Value):evC Try.prog (Ans.c ((p20V 20).or (p91.or (p92.or p94)))) 60 (Lp42_0.headG x y) (gK Lp42_0.N Lp42_0.M Lp42_0.os Lp42_0.z Lp42_0.S Lp42_0.pick)=(rd42_0 x).out Lp42_0.encG:=by
  obtain ⟨own,v0,v1,v2,v3,v4,v5,v6,v7,v8,v9,v10,v11,v12,v13,v14,v15,v16,v17,v18,v19⟩:=x
  cases own with
  | none=>exact T42_0n  y v0 v1 v2 v3 v4 v5 v6 v7 v8 v9 v10 v11 v12 v13 v14 v15 v16 v17 v18 v19
  | some al=>obtain ⟨oa,ol⟩:=al;exact T42_0s  y oa ol v0 v1 v2 v3 v4 v5 v6 v7 v8 v9 v10 v11 v12 v13 v14 v15 v16 v17 v18 v19
def L42_0 (x:X42_0):Option D42_0:=loopR rd42_0 x
section
variable (x:X42_0)
def L42_0_k0:Bool:=match L42_0 x with | some (.k0 ..)=>true | _=>false
def Ql0:Array Value:=match L42_0 x with | some (.k0 d _ _ _ _ _ _ _ _ _ _ _ _ _ _ _ _ _ _)=>d | _=>#[]
def Ql1:Nat:=match L42_0 x with | some (.k0 _ d _ _ _ _ _ _ _ _ _ _ _ _ _ _ _ _ _)=>d | _=>0
def Ql2:Nat:=match L42_0 x with | some (.k0 _ _ d _ _ _ _ _ _ _ _ _ _ _ _ _ _ _ _)=>d | _=>0
def Ql3:Int:=match L42_0 x with | some (.k0 _ _ _ d _ _ _ _ _ _ _ _ _ _ _ _ _ _ _)=>d | _=>0
def Ql4:Array Value:=match L42_0 x with | some (.k0 _ _ _ _ d _ _ _ _ _ _ _ _ _ _ _ _ _ _)=>d | _=>#[]
def Ql5:Nat:=match L42_0 x with | some (.k0 _ _ _ _ _ d _ _ _ _ _ _ _ _ _ _ _ _ _)=>d | _=>0
def Ql6:Nat:=match L42_0 x with | some (.k0 _ _ _ _ _ _ d _ _ _ _ _ _ _ _ _ _ _ _)=>d | _=>0
def Ql7:Array Value:=match L42_0 x with | some (.k0 _ _ _ _ _ _ _ d _ _ _ _ _ _ _ _ _ _ _)=>d | _=>#[]
def Ql8:Nat:=match L42_0 x with | some (.k0 _ _ _ _ _ _ _ _ d _ _ _ _ _ _ _ _ _ _)=>d | _=>0
def Ql9:Nat:=match L42_0 x with | some (.k0 _ _ _ _ _ _ _ _ _ d _ _ _ _ _ _ _ _ _)=>d | _=>0
def Ql10:Array Value:=match L42_0 x with | some (.k0 _ _ _ _ _ _ _ _ _ _ d _ _ _ _ _ _ _ _)=>d | _=>#[]
def Ql11:Nat:=match L42_0 x with | some (.k0 _ _ _ _ _ _ _ _ _ _ _ d _ _ _ _ _ _ _)=>d | _=>0
def Ql12:Nat:=match L42_0 x with | some (.k0 _ _ _ _ _ _ _ _ _ _ _ _ d _ _ _ _ _ _)=>d | _=>0
def Ql13:Int:=match L42_0 x with | some (.k0 _ _ _ _ _ _ _ _ _ _ _ _ _ d _ _ _ _ _)=>d | _=>0
def Ql14:Int:=match L42_0 x with | some (.k0 _ _ _ _ _ _ _ _ _ _ _ _ _ _ d _ _ _ _)=>d | _=>0
def Ql15:Int:=match L42_0 x with | some (.k0 _ _ _ _ _ _ _ _ _ _ _ _ _ _ _ d _ _ _)=>d | _=>0
def Ql16:Int:=match L42_0 x with | some (.k0 _ _ _ _ _ _ _ _ _ _ _ _ _ _ _ _ d _ _)=>d | _=>0
def Ql17:Int:=match L42_0 x with | some (.k0 _ _ _ _ _ _ _ _ _ _ _ _ _ _ _ _ _ d _)=>d | _=>0
def Ql18:Int:=match L42_0 x with | some (.k0 _ _ _ _ _ _ _ _ _ _ _ _ _ _ _ _ _ _ d)=>d | _=>0
def L42_0_k1:Bool:=match L42_0 x with | some (.k1 ..)=>true | _=>false
def Qm0:Array Value:=match L42_0 x with | some (.k1 d _ _ _ _ _ _ _ _ _ _ _ _ _ _ _ _ _)=>d | _=>#[]
def Qm1:Nat:=match L42_0 x with | some (.k1 _ d _ _ _ _ _ _ _ _ _ _ _ _ _ _ _ _)=>d | _=>0
def Qm2:Nat:=match L42_0 x with | some (.k1 _ _ d _ _ _ _ _ _ _ _ _ _ _ _ _ _ _)=>d | _=>0
def Qm3:Array Value:=match L42_0 x with | some (.k1 _ _ _ d _ _ _ _ _ _ _ _ _ _ _ _ _ _)=>d | _=>#[]
def Qm4:Nat:=match L42_0 x with | some (.k1 _ _ _ _ d _ _ _ _ _ _ _ _ _ _ _ _ _)=>d | _=>0
def Qm5:Nat:=match L42_0 x with | some (.k1 _ _ _ _ _ d _ _ _ _ _ _ _ _ _ _ _ _)=>d | _=>0
def Qm6:Array Value:=match L42_0 x with | some (.k1 _ _ _ _ _ _ d _ _ _ _ _ _ _ _ _ _ _)=>d | _=>#[]
def Qm7:Nat:=match L42_0 x with | some (.k1 _ _ _ _ _ _ _ d _ _ _ _ _ _ _ _ _ _)=>d | _=>0
def Qm8:Nat:=match L42_0 x with | some (.k1 _ _ _ _ _ _ _ _ d _ _ _ _ _ _ _ _ _)=>d | _=>0
def Qm9:Array Value:=match L42_0 x with | some (.k1 _ _ _ _ _ _ _ _ _ d _ _ _ _ _ _ _ _)=>d | _=>#[]
def Qm10:Nat:=match L42_0 x with | some (.k1 _ _ _ _ _ _ _ _ _ _ d _ _ _ _ _ _ _)=>d | _=>0
def Qm11:Nat:=match L42_0 x with | some (.k1 _ _ _ _ _ _ _ _ _ _ _ d _ _ _ _ _ _)=>d | _=>0
def Qm12:Int:=match L42_0 x with | some (.k1 _ _ _ _ _ _ _ _ _ _ _ _ d _ _ _ _ _)=>d | _=>0
def Qm13:Int:=match L42_0 x with | some (.k1 _ _ _ _ _ _ _ _ _ _ _ _ _ d _ _ _ _)=>d | _=>0
def Qm14:Int:=match L42_0 x with | some (.k1 _ _ _ _ _ _ _ _ _ _ _ _ _ _ d _ _ _)=>d | _=>0
def Qm15:Int:=match L42_0 x with | some (.k1 _ _ _ _ _ _ _ _ _ _ _ _ _ _ _ d _ _)=>d | _=>0
def Qm16:Int:=match L42_0 x with | some (.k1 _ _ _ _ _ _ _ _ _ _ _ _ _ _ _ _ d _)=>d | _=>0
def Qm17:Int:=match L42_0 x with | some (.k1 _ _ _ _ _ _ _ _ _ _ _ _ _ _ _ _ _ d)=>d | _=>0
end
def dec42_0:Task→Option (Code×X42_0)
  | .code none (.loop code) ⟨t,[],⟨[.cells ⟨[(.func (.via 0 ⟨[]⟩ 0 true) v5 ⟨[.slice (some ⟨0,v6,none⟩) v7 7]⟩),(.func (.via 0 ⟨[]⟩ 0 true) v8 ⟨[.slice (some ⟨0,v9,none⟩) v10 5]⟩),(.func (.via 0 ⟨[]⟩ 0 true) v11 ⟨[.slice (some ⟨0,v12,none⟩) v13 1]⟩),(.int .i64 v14),(.int .i64 v15)]⟩ false,.cells ⟨[(.int .i64 v16),(.int .i64 v17),(.int .i64 v18),(.int .i64 v19)]⟩ false],0,[]⟩⟩ =>
    (match Nat.beq (firstReg code) 9,lenIs t 66,lget t 12,lget t 3,lget t 11,lget t 34,lget t 35,lget t 36 with
    | true,true,.slice none 0 0,(Value.pointer (Option.some (Addr.mk 0 0 Option.none))),(Value.pointer (Option.some (Addr.mk 1 0 Option.none))),(.func (.via 0 ⟨[]⟩ 0 true) v0 ⟨[.slice (some ⟨0,v1,none⟩) v2 1]⟩),(.int .i64 v3),(.int .i64 v4)=>some (code,⟨none,v0,v1,v2,v3,v4,v5,v6,v7,v8,v9,v10,v11,v12,v13,v14,v15,v16,v17,v18,v19⟩)
    | _,_,_,_,_,_,_,_=>none)
  | .code none (.loop code) ⟨t,[],⟨[.cells ⟨[(.func (.via 0 ⟨[]⟩ 0 true) v5 ⟨[.slice (some ⟨0,v6,none⟩) v7 7]⟩),(.func (.via 0 ⟨[]⟩ 0 true) v8 ⟨[.slice (some ⟨0,v9,none⟩) v10 5]⟩),(.func (.via 0 ⟨[]⟩ 0 true) v11 ⟨[.slice (some ⟨0,v12,none⟩) v13 1]⟩),(.int .i64 v14),(.int .i64 v15)]⟩ false,.cells ⟨[(.int .i64 v16),(.int .i64 v17),(.int .i64 v18),(.int .i64 v19)]⟩ false,.cells oa false],0,[]⟩⟩ =>
    (match Nat.beq (firstReg code) 9,lenIs t 66,lget t 12,lget t 3,lget t 11,lget t 34,lget t 35,lget t 36 with
    | true,true,.slice (some ⟨2,0,none⟩) ol 6,(Value.pointer (Option.some (Addr.mk 0 0 Option.none))),(Value.pointer (Option.some (Addr.mk 1 0 Option.none))),(.func (.via 0 ⟨[]⟩ 0 true) v0 ⟨[.slice (some ⟨0,v1,none⟩) v2 1]⟩),(.int .i64 v3),(.int .i64 v4)=>some (code,⟨(some (oa,ol)),v0,v1,v2,v3,v4,v5,v6,v7,v8,v9,v10,v11,v12,v13,v14,v15,v16,v17,v18,v19⟩)
    | _,_,_,_,_,_,_,_=>none)
  | _=>none
def alt42_0 (x:X42_0)(j:List Value):AT:=match x.own with
  | none=>.br (L42_0_k0 x) (loopEnd 66 (.ret) [(6,(lstV (Ql0 x) (Ql1 x) (Ql2 x) 6)),(7,(.int .i64 (Ql3 x)))] ⟨[.cells ⟨[(lstV (Ql4 x) (Ql5 x) (Ql6 x) 7),(lstV (Ql7 x) (Ql8 x) (Ql9 x) 5),(lstV (Ql10 x) (Ql11 x) (Ql12 x) 1),(.int .i64 (Ql13 x)),(.int .i64 (Ql14 x))]⟩ false,.cells ⟨[(.int .i64 (Ql15 x)),(.int .i64 (Ql16 x)),(.int .i64 (Ql17 x)),(.int .i64 (Ql18 x))]⟩ false],0,[]⟩ j) (.br (L42_0_k1 x) (loopEnd 66 (.exit 0) [(12,(lstV (Qm0 x) (Qm1 x) (Qm2 x) 6))] ⟨[.cells ⟨[(lstV (Qm3 x) (Qm4 x) (Qm5 x) 7),(lstV (Qm6 x) (Qm7 x) (Qm8 x) 5),(lstV (Qm9 x) (Qm10 x) (Qm11 x) 1),(.int .i64 (Qm12 x)),(.int .i64 (Qm13 x))]⟩ false,.cells ⟨[(.int .i64 (Qm14 x)),(.int .i64 (Qm15 x)),(.int .i64 (Qm16 x)),(.int .i64 (Qm17 x))]⟩ false],0,[]⟩ j) (.no))
  | some (oa,ol)=>.br (allFz oa) (.br (L42_0_k0 x) (loopEnd 66 (.ret) [(6,(lstV (Ql0 x) (Ql1 x) (Ql2 x) 6)),(7,(.int .i64 (Ql3 x)))] ⟨[.cells ⟨[(lstV (Ql4 x) (Ql5 x) (Ql6 x) 7),(lstV (Ql7 x) (Ql8 x) (Ql9 x) 5),(lstV (Ql10 x) (Ql11 x) (Ql12 x) 1),(.int .i64 (Ql13 x)),(.int .i64 (Ql14 x))]⟩ false,.cells ⟨[(.int .i64 (Ql15 x)),(.int .i64 (Ql16 x)),(.int .i64 (Ql17 x)),(.int .i64 (Ql18 x))]⟩ false,.dead],0,[]⟩ j) (.br (L42_0_k1 x) (loopEnd 66 (.exit 0) [(12,(lstV (Qm0 x) (Qm1 x) (Qm2 x) 6))] ⟨[.cells ⟨[(lstV (Qm3 x) (Qm4 x) (Qm5 x) 7),(lstV (Qm6 x) (Qm7 x) (Qm8 x) 5),(lstV (Qm9 x) (Qm10 x) (Qm11 x) 1),(.int .i64 (Qm12 x)),(.int .i64 (Qm13 x))]⟩ false,.cells ⟨[(.int .i64 (Qm14 x)),(.int .i64 (Qm15 x)),(.int .i64 (Qm16 x)),(.int .i64 (Qm17 x))]⟩ false,.dead],0,[]⟩ j) (.no))) .no
def la42_0 (J:Task→List Value):Ans:=loopAns Lp42_0.c dec42_0 alt42_0 J
theorem ha42_0:∀(x:X42_0) (j:List Value)(o:Out),(alt42_0 x j).out=some o→(∀a l,Lp42_0.own x=some (a,l)→allFz a=true)∧∃d,loopR rd42_0 x=some d∧o=Lp42_0.tailG x d j:=by
  intro x j o h
  obtain ⟨own,v0,v1,v2,v3,v4,v5,v6,v7,v8,v9,v10,v11,v12,v13,v14,v15,v16,v17,v18,v19⟩:=x
  cases own with
  | none =>
    refine ⟨fun a l e=>(by cases e),?_⟩
    cases hL:L42_0 ⟨none,v0,v1,v2,v3,v4,v5,v6,v7,v8,v9,v10,v11,v12,v13,v14,v15,v16,v17,v18,v19⟩ with
    | none=>simp [alt42_0,L42_0_k0,Ql0,Ql1,Ql2,Ql3,Ql4,Ql5,Ql6,Ql7,Ql8,Ql9,Ql10,Ql11,Ql12,Ql13,Ql14,Ql15,Ql16,Ql17,Ql18,L42_0_k1,Qm0,Qm1,Qm2,Qm3,Qm4,Qm5,Qm6,Qm7,Qm8,Qm9,Qm10,Qm11,Qm12,Qm13,Qm14,Qm15,Qm16,Qm17,hL,AT.out]at h
    | some d =>
      refine ⟨d,hL,?_⟩
      cases d<;>(simp only [alt42_0,L42_0_k0,Ql0,Ql1,Ql2,Ql3,Ql4,Ql5,Ql6,Ql7,Ql8,Ql9,Ql10,Ql11,Ql12,Ql13,Ql14,Ql15,Ql16,Ql17,Ql18,L42_0_k1,Qm0,Qm1,Qm2,Qm3,Qm4,Qm5,Qm6,Qm7,Qm8,Qm9,Qm10,Qm11,Qm12,Qm13,Qm14,Qm15,Qm16,Qm17,hL,AT.out,loopEnd,cond_true,cond_false,Option.some.injEq]at h;rw [← h];rfl)
  | some al =>
    obtain ⟨oa,ol⟩:=al
    obtain ⟨h1,h⟩:=cond_some (show cond (allFz oa) _ none=some o from h)
    refine ⟨fun a l e=>(by cases e;exact h1),?_⟩
    cases hL:L42_0 ⟨some (oa,ol),v0,v1,v2,v3,v4,v5,v6,v7,v8,v9,v10,v11,v12,v13,v14,v15,v16,v17,v18,v19⟩ with
    | none=>simp [L42_0_k0,Ql0,Ql1,Ql2,Ql3,Ql4,Ql5,Ql6,Ql7,Ql8,Ql9,Ql10,Ql11,Ql12,Ql13,Ql14,Ql15,Ql16,Ql17,Ql18,L42_0_k1,Qm0,Qm1,Qm2,Qm3,Qm4,Qm5,Qm6,Qm7,Qm8,Qm9,Qm10,Qm11,Qm12,Qm13,Qm14,Qm15,Qm16,Qm17,hL,AT.out]at h
    | some d =>
      refine ⟨d,hL,?_⟩
      cases d<;>(simp only [L42_0_k0,Ql0,Ql1,Ql2,Ql3,Ql4,Ql5,Ql6,Ql7,Ql8,Ql9,Ql10,Ql11,Ql12,Ql13,Ql14,Ql15,Ql16,Ql17,Ql18,L42_0_k1,Qm0,Qm1,Qm2,Qm3,Qm4,Qm5,Qm6,Qm7,Qm8,Qm9,Qm10,Qm11,Qm12,Qm13,Qm14,Qm15,Qm16,Qm17,hL,AT.out,loopEnd,cond_true,cond_false,Option.some.injEq]at h;rw [← h];rfl)
theorem hd42_0:∀(t:Task) (c:Code)(x:X42_0),dec42_0 t=some (c,x)→c=Lp42_0.c→∃T,t=.code none (.loop Lp42_0.c) ⟨T,[],⟨Lp42_0.hp x++Lp42_0.ownB x,0,[]⟩⟩∧T.length=Lp42_0.N∧∀kv∈(Lp42_0.os::Lp42_0.S).zip (Lp42_0.ownV x::Lp42_0.sl x),lget T kv.1=kv.2:=by
  intro t c x h hc
  unfold dec42_0 at h
  split at h
  case h_3=>cases h
  all_goals
    split at h
    case h_2=>cases h
    simp only [Option.some.injEq,Prod.mk.injEq]at h
    obtain ⟨rfl,rfl⟩:=h
    subst hc
    refine ⟨_,rfl,lenIs_eq _ _ (by assumption),?_⟩
    intro kv hk
    simp only [Lp42_0,LoopG.ownV,List.zip_cons_cons,List.zip_nil_right,List.mem_cons,List.not_mem_nil,or_false]at hk
    rcases hk with rfl | rfl | rfl | rfl | rfl | rfl<;>assumption
theorem kl42_0:∃J,Known Try.prog (la42_0 J):=by
  exact LoopG.known noNG mixed ok42_0 (Known.or (known20V (known20v known20)) (Known.or known91 (Known.or known92 known94))) (n:=60) (rd:=rd42_0) (fun x j _=>T42_0  x j) dec42_0 alt42_0 hd42_0 ha42_0
structure R42 where
  (r0:Array Value)
  (r1 r2:Nat)
  (r3:Int)
structure A42 where
  (a0:Array Value)
  (a1 a2:Nat)
  (a3:Array Value)
  (a4 a5:Nat)
  (a6:Array Value)
  (a7 a8:Nat)
  (a9 a10:Int)
  (a11 a12:Int)
def rt42 (a0:Array Value)(a1 a2:Nat)(a3:Array Value)(a4 a5:Nat)(a6:Array Value)(a7 a8:Nat)(a9 a10:Int)(a11 a12:Int):RT R42 :=
  .br (F20_ok a0 a1 a2 a3 a4 a5 a6 a7 a8 a9 a10) (.br (not (decide ((F20_2 a0 a1 a2 a3 a4 a5 a6 a7 a8 a9 a10)=(0:Int)))) (.leaf ⟨⟨[]⟩,0,0,(F20_2 a0 a1 a2 a3 a4 a5 a6 a7 a8 a9 a10)⟩) (.br (F91_ok (0:Int) (0:Int) a11 a12) (.br (not (F91_0 (0:Int) (0:Int) a11 a12)) (.leaf ⟨⟨[]⟩,0,0,(7:Int)⟩) (.br (eqCode (Lp42_0.c) (Lp42_0.c)) (.br (L42_0_k0 (X42_0.mk none a6 a7 a8 (Int.ofNat a8) (0:Int) a0 a1 a2 a3 a4 a5 a6 a7 a8 a9 a10 (0:Int) (0:Int) a11 a12)) (.leaf ⟨(Ql0 (X42_0.mk none a6 a7 a8 (Int.ofNat a8) (0:Int) a0 a1 a2 a3 a4 a5 a6 a7 a8 a9 a10 (0:Int) (0:Int) a11 a12)),(Ql1 (X42_0.mk none a6 a7 a8 (Int.ofNat a8) (0:Int) a0 a1 a2 a3 a4 a5 a6 a7 a8 a9 a10 (0:Int) (0:Int) a11 a12)),(Ql2 (X42_0.mk none a6 a7 a8 (Int.ofNat a8) (0:Int) a0 a1 a2 a3 a4 a5 a6 a7 a8 a9 a10 (0:Int) (0:Int) a11 a12)),(Ql3 (X42_0.mk none a6 a7 a8 (Int.ofNat a8) (0:Int) a0 a1 a2 a3 a4 a5 a6 a7 a8 a9 a10 (0:Int) (0:Int) a11 a12))⟩)
     (.br (L42_0_k1 (X42_0.mk none a6 a7 a8 (Int.ofNat a8) (0:Int) a0 a1 a2 a3 a4 a5 a6 a7 a8 a9 a10 (0:Int) (0:Int) a11 a12)) (.leaf ⟨(Qm0 (X42_0.mk none a6 a7 a8 (Int.ofNat a8) (0:Int) a0 a1 a2 a3 a4 a5 a6 a7 a8 a9 a10 (0:Int) (0:Int) a11 a12)),(Qm1 (X42_0.mk none a6 a7 a8 (Int.ofNat a8) (0:Int) a0 a1 a2 a3 a4 a5 a6 a7 a8 a9 a10 (0:Int) (0:Int) a11 a12)),(Qm2 (X42_0.mk none a6 a7 a8 (Int.ofNat a8) (0:Int) a0 a1 a2 a3 a4 a5 a6 a7 a8 a9 a10 (0:Int) (0:Int) a11 a12)),(0:Int)⟩) (.no))) (.no))) (.no))) (.no)
def en42 (r:R42):Value:=(.tuple ⟨[(lstV r.r0 r.r1 r.r2 6),(.int .i64 r.r3)]⟩)
theorem T42 (J0:Task→List Value)(a0:Array Value)(a1 a2:Nat)(a3:Array Value)(a4 a5:Nat)(a6:Array Value)(a7 a8:Nat)(a9 a10:Int)(a11 a12:Int):evC Try.prog (Ans.c ((p20V 20).or (p91.or (p92.or (p94.or (la42_0 J0)))))) 60 (.call 42 ⟨[(.agg ⟨[(lstV a0 a1 a2 7),(lstV a3 a4 a5 5),(lstV a6 a7 a8 1),(.int .i64 a9),(.int .i64 a10)]⟩),(.int .i64 a11),(.int .i64 a12)]⟩ ⟨[],0,[]⟩) (frzK [6,0])=(rt42 a0 a1 a2 a3 a4 a5 a6 a7 a8 a9 a10 a11 a12).out (fun r=>.ret (en42 r) ⟨[],0,[]⟩):=by kernel_rfl
def F42 (a0:Array Value)(a1 a2:Nat)(a3:Array Value)(a4 a5:Nat)(a6:Array Value)(a7 a8:Nat)(a9 a10:Int)(a11 a12:Int):Option R42:=(rt42 a0 a1 a2 a3 a4 a5 a6 a7 a8 a9 a10 a11 a12).val
section
variable (a0:Array Value) (a1 a2:Nat) (a3:Array Value) (a4 a5:Nat) (a6:Array Value) (a7 a8:Nat) (a9 a10:Int) (a11 a12:Int)
def F42_ok:Bool:=(F42 a0 a1 a2 a3 a4 a5 a6 a7 a8 a9 a10 a11 a12).isSome
def F42_0:Array Value:=match F42 a0 a1 a2 a3 a4 a5 a6 a7 a8 a9 a10 a11 a12 with | some r=>r.r0 | none=>#[]
def F42_1:Nat:=match F42 a0 a1 a2 a3 a4 a5 a6 a7 a8 a9 a10 a11 a12 with | some r=>r.r1 | none=>0
def F42_2:Nat:=match F42 a0 a1 a2 a3 a4 a5 a6 a7 a8 a9 a10 a11 a12 with | some r=>r.r2 | none=>0
def F42_3:Int:=match F42 a0 a1 a2 a3 a4 a5 a6 a7 a8 a9 a10 a11 a12 with | some r=>r.r3 | none=>0
end
def dec42:Task→Option (A42×Hp)
  | .call g ⟨[(.agg ⟨[(.func (.via 0 ⟨[]⟩ 0 true) a0 ⟨[.slice (some ⟨0,a1,none⟩) a2 7]⟩),(.func (.via 0 ⟨[]⟩ 0 true) a3 ⟨[.slice (some ⟨0,a4,none⟩) a5 5]⟩),(.func (.via 0 ⟨[]⟩ 0 true) a6 ⟨[.slice (some ⟨0,a7,none⟩) a8 1]⟩),(.int .i64 a9),(.int .i64 a10)]⟩),(.int .i64 a11),(.int .i64 a12)]⟩ h=>(match Nat.beq g 42 with | true=>some (⟨a0,a1,a2,a3,a4,a5,a6,a7,a8,a9,a10,a11,a12⟩,h) | false=>none)
  | _=>none
def alt42 (x:A42)(h:Hp):AT:=.br (F42_ok x.a0 x.a1 x.a2 x.a3 x.a4 x.a5 x.a6 x.a7 x.a8 x.a9 x.a10 x.a11 x.a12) (.leaf (.ret (.tuple ⟨[(lstV (F42_0 x.a0 x.a1 x.a2 x.a3 x.a4 x.a5 x.a6 x.a7 x.a8 x.a9 x.a10 x.a11 x.a12) (F42_1 x.a0 x.a1 x.a2 x.a3 x.a4 x.a5 x.a6 x.a7 x.a8 x.a9 x.a10 x.a11 x.a12) (F42_2 x.a0 x.a1 x.a2 x.a3 x.a4 x.a5 x.a6 x.a7 x.a8 x.a9 x.a10 x.a11 x.a12) 6),(.int .i64 (F42_3 x.a0 x.a1 x.a2 x.a3 x.a4 x.a5 x.a6 x.a7 x.a8 x.a9 x.a10 x.a11 x.a12))]⟩) h)) .no
def p42:Ans:=fnAns dec42 alt42
theorem ha42:∀(x:A42) (h:Hp)(o:Out),(alt42 x h).out=some o→∃r,(rt42 x.a0 x.a1 x.a2 x.a3 x.a4 x.a5 x.a6 x.a7 x.a8 x.a9 x.a10 x.a11 x.a12).val=some r∧o=.ret (en42 r) h:=by
  intro x h o e
  unfold alt42 at e
  cases hF:F42 x.a0 x.a1 x.a2 x.a3 x.a4 x.a5 x.a6 x.a7 x.a8 x.a9 x.a10 x.a11 x.a12 with
  | none=>simp [F42_ok,hF,AT.out]at e
  | some r =>
    refine ⟨r,hF,?_⟩
    simp only [F42_ok,F42_0,F42_1,F42_2,F42_3,hF,AT.out,Option.isSome_some,cond_true,Option.some.injEq]at e
    rw [← e];rfl
theorem hd42:∀(t:Task) (x:A42)(h:Hp),dec42 t=some (x,h)→t=.call 42 ⟨[(.agg ⟨[(lstV x.a0 x.a1 x.a2 7),(lstV x.a3 x.a4 x.a5 5),(lstV x.a6 x.a7 x.a8 1),(.int .i64 x.a9),(.int .i64 x.a10)]⟩),(.int .i64 x.a11),(.int .i64 x.a12)]⟩ h:=by
  intro t x h e
  unfold dec42 at e
  split at e
  case h_2=>cases e
  split at e
  case h_2=>cases e
  rename_i hg
  simp only [Option.some.injEq,Prod.mk.injEq]at e
  obtain ⟨rfl,rfl⟩:=e
  rw [Nat.eq_of_beq_eq_true hg]
theorem known42:Known Try.prog p42:=by
  obtain ⟨J0,hJ0⟩:=kl42_0
  exact Known.fn noNG mixed (Known.or (known20V (known20v known20)) (Known.or known91 (Known.or known92 (Known.or known94 hJ0)))) (n:=60) (zs:=[6,0]) 42 (fun x:A42=>[(.agg ⟨[(lstV x.a0 x.a1 x.a2 7),(lstV x.a3 x.a4 x.a5 5),(lstV x.a6 x.a7 x.a8 1),(.int .i64 x.a9),(.int .i64 x.a10)]⟩),(.int .i64 x.a11),(.int .i64 x.a12)]) (fun x=>rt42 x.a0 x.a1 x.a2 x.a3 x.a4 x.a5 x.a6 x.a7 x.a8 x.a9 x.a10 x.a11 x.a12) en42 (fun x=>T42 J0 x.a0 x.a1 x.a2 x.a3 x.a4 x.a5 x.a6 x.a7 x.a8 x.a9 x.a10 x.a11 x.a12) (fun x=>rfl) dec42 alt42 hd42 ha42
end
end Go.Proofs.Ytfnogghclaijlaa
namespace Go.Proofs.Ytfnogghclaijlaa
open Go.Gi Go.RowKit
noncomputable section
set_option maxRecDepth 100000
abbrev L6s:List Leaf:=[.int .i64,.int .i64,.int .i64,.int .i64,.int .i64,.int .i64]
end
end Go.Proofs.Ytfnogghclaijlaa
namespace Go.Proofs.Ytfnogghclaijlaa
open Go.Gi Go.RowKit Go.Proofs.Ytfnogghclaijlaa.Old
noncomputable section
set_option maxRecDepth 100000
structure Bd where
  f:Int
  t:Int
  xl:Int
  xh:Int
  yl:Int
  yh:Int
def Bd.row (b:Bd):List Value:=[.int .i64 b.f,.int .i64 b.t,.int .i64 b.xl,.int .i64 b.xh,.int .i64 b.yl,.int .i64 b.yh]
def rowsB:List Bd→List Value
  | []=>[]
  | b::r=>b.row++rowsB r
def arrB (L:List Bd):Array Value:=⟨rowsB L⟩
theorem rowsB_app:∀L M:List Bd,rowsB (L++M)=rowsB L++rowsB M
  | [],_=>rfl
  | b::r,M=>by simp only [List.cons_append,rowsB,rowsB_app r M,List.append_assoc]
theorem rowsB_len:∀L:List Bd,(rowsB L).length=L.length*6
  | []=>rfl
  | b::r=>by simp only [rowsB,List.length_append,rowsB_len r,List.length_cons,Bd.row,List.length_nil];omega
def encB (L:List Bd):Option (Array Value×Nat):=match L with
  | []=>none
  | a::r=>some (arrB (a::r),(a::r).length)
theorem apB_arrB (L:List Bd)(b:Bd):apB (Array.extract (arrB L) 0 (0+(L.length*6))) (Array.extract ⟨b.row⟩ 0 6)=arrB (L++[b]):=by
  simp only [apB,arrB,Nat.zero_add,List.extract_toArray,rowsB_app]
  rw [List.extract_eq_take_drop,List.extract_eq_take_drop]
  simp only [List.drop_zero,Nat.sub_zero,rowsB,List.append_nil]
  rw [List.take_of_length_le (by rw [rowsB_len];omega),List.take_of_length_le (by simp [Bd.row])]
  simp
theorem allFz_arrB:∀L:List Bd,allFz (arrB L)=true:=by
  intro L
  simp only [allFz,arrB]
  induction L with
  | nil=>rfl
  | cons b r ih=>simp only [rowsB,List.all_append,ih,Bool.and_true];rfl
theorem size_arrB (L:List Bd):(arrB L).size=L.length*6:=rowsB_len L
theorem drop_rows:∀(L:List Bd) (i:Nat) (h:i<L.length),∃r,(rowsB L).drop (i*6)=(L[i]).row++r
  | b::r,0,_=>⟨rowsB r,rfl⟩
  | b::r,i+1,h=>by
    obtain ⟨q,e⟩:=drop_rows r i (by simpa using h)
    refine ⟨q,?_⟩
    rw [show (i+1)*6=6+i*6 by omega]
    show (b.row++rowsB r).drop (6+i*6)=_
    rw [← List.drop_drop]
    exact e
theorem lget_drop (l:List Value)(i j:Nat):lget (l.drop i) j=lget l (i+j):=by
  rw [lget_eq,lget_eq]
  simp [Array.getD_eq_getD_getElem?,List.getElem?_drop]
theorem rdOk_arrB (L:List Bd) {i:Nat}(h:i<L.length):rdOk (arrB L) L6s (0+i*6)=true:=by
  obtain ⟨r,e⟩:=drop_rows L i h
  have g:∀j,lget (rowsB L) (i*6+j)=lget ((L[i]).row++r) j:=fun j=>by rw [← e,lget_drop]
  have g0:=g 0
  have g1:=g 1
  have g2:=g 2
  have g3:=g 3
  have g4:=g 4
  have g5:=g 5
  simp only [Nat.add_zero]at g0
  simp only [rdOk,rdLeaf,isInt,arrB,Nat.zero_add,Nat.add_assoc,Nat.reduceAdd,g0,g1,g2,g3,g4,g5]
  rfl
def bnds (c0 c c3:Array Value)(n n2:Nat)(age shear tick now:Int):Nat→Nat→Option (List Bd)
  | 0,_=>some []
  | m+1,k=>match ansO c0 c n n2 age shear (wLo c3 (k:Int)) (wHi c3 (k:Int)) tick now with
    | none=>none
    | some h=>match bnds c0 c c3 n n2 age shear tick now m (k+1) with
      | none=>none
      | some R=>some (⟨wLo c3 (k:Int),getInt c3 k,h.xl,h.xh,h.yl,h.yh⟩::R)
section
variable {c0 c c3:Array Value}{n n2 n3:Nat}{age shear lo hi tick now:Int}
theorem bnds_len:∀m k R,bnds c0 c c3 n n2 age shear tick now m k=some R→R.length=m
  | 0,k,R,h=>by simp only [bnds,Option.some.injEq]at h;subst h;rfl
  | m+1,k,R,h=>by
    unfold bnds at h
    split at h
    · cases h
    · split at h
      · cases h
      · rename_i R' h'
        simp only [Option.some.injEq]at h
        subst h
        simp only [List.length_cons,bnds_len m (k+1) R' h']
theorem F92_some {h:Hd}(hv:Vld c0 0 n c 0 n2 age shear) (h81:F81ok c0 0 n c 0 n2 c3 0 n3 age shear lo hi tick now=true) (e:ansO c0 c n n2 age shear lo hi tick now=some h) :
    F92_ok c0 0 n c 0 n2 c3 0 n3 age shear lo hi tick now=true∧F92_0 c0 0 n c 0 n2 c3 0 n3 age shear lo hi tick now=h.xl∧F92_1 c0 0 n c 0 n2 c3 0 n3 age shear lo hi tick now=h.xh ∧
    F92_2 c0 0 n c 0 n2 c3 0 n3 age shear lo hi tick now=h.yl∧F92_3 c0 0 n c 0 n2 c3 0 n3 age shear lo hi tick now=h.yh∧F92_4 c0 0 n c 0 n2 c3 0 n3 age shear lo hi tick now=true:=by
  have q:=F92_eq hv h81
  rw [e]at q
  exact ⟨by simp [F92_ok,q],by simp [F92_0,q],by simp [F92_1,q],by simp [F92_2,q],by simp [F92_3,q],by simp [F92_4,q]⟩
theorem F92_none (hv:Vld c0 0 n c 0 n2 age shear)(h81:F81ok c0 0 n c 0 n2 c3 0 n3 age shear lo hi tick now=true)(e:ansO c0 c n n2 age shear lo hi tick now=none) :
    F92_ok c0 0 n c 0 n2 c3 0 n3 age shear lo hi tick now=true∧F92_4 c0 0 n c 0 n2 c3 0 n3 age shear lo hi tick now=false:=by
  have q:=F92_eq hv h81
  rw [e]at q
  exact ⟨by simp [F92_ok,q],by simp [F92_4,q]⟩
theorem loop42 (hv:Vld c0 0 n c 0 n2 age shear)(g3:GL L1 1 c3 n3)(few:n3≤1000) (h81:∀k:Nat,k<n3→F81ok c0 0 n c 0 n2 c3 0 n3 age shear (wLo c3 (k:Int)) (wHi c3 (k:Int)) tick now=true) :
    ∀(m k:Nat) (L:List Bd) (lo hi:Int),k+m=n3→L.length=k→∃a b,
    loopR rd42_0
      ⟨encB L,c3,0,n3,(n3:Int),(k:Int),c0,0,n,c,0,n2,c3,0,n3,age,shear,lo,hi,tick,now⟩ =
    some (match bnds c0 c c3 n n2 age shear tick now m k with
      | none=>.k0 ⟨[]⟩ 0 0 9 c0 0 n c 0 n2 c3 0 n3 age shear a b tick now
      | some R=>.k1 (arrB (L++R)) 0 (L++R).length c0 0 n c 0 n2 c3 0 n3 age shear a b tick now)
  | 0,k,L,lo,hi,e,hl=>⟨lo,hi,loopR_done (by
      obtain rfl:k=n3:=by omega
      have h1:¬((k:Int)<(k:Int)):=by omega
      cases L with
      | nil=>simp only [rd42_0,encB,RT.val,h1,Int.ofNat_eq_natCast,decide_false,cond_false,bnds];rfl
      | cons a r =>
        simp only [rd42_0,encB,RT.val,h1,Int.ofNat_eq_natCast,decide_false,cond_false,cond_true,allFz_arrB,size_arrB,Nat.zero_add,Nat.le_refl,decide_true,Bool.and_self,bnds,List.append_nil])⟩
  | m+1,k,L,lo,hi,e,hl=>by
    have hki:(k:Int)<(n3:Int):=by omega
    have h0:(0:Int)≤(k:Int):=by omega
    have hidx:0+(Int.toNat (k:Int))*1=k:=by simp
    have hi1:isInt .i64 c3 k=true:=g3.int (by omega)
    have h3:IntKind.wrap .i64 ((k:Int)+1)=((k+1:Nat):Int):=by rw [wrap64_id (by omega) (by omega)];omega
    obtain ⟨w1,w2,w3⟩:=F94_of (c1:=c0) (c2:=c) (n1:=n) (n2:=n2) (age:=age) (shear:=shear) (k:=(k:Int)) g3 (by omega) (by omega)
    have h81k:=h81 k (by omega)
    cases ha:ansO c0 c n n2 age shear (wLo c3 (k:Int)) (wHi c3 (k:Int)) tick now with
    | none =>
      obtain ⟨f1,f2⟩:=F92_none hv h81k ha
      refine ⟨wLo c3 (k:Int),wHi c3 (k:Int),loopR_done ?_⟩
      cases L with
      | nil=>simp only [rd42_0,encB,RT.val,Int.ofNat_eq_natCast,hki,h0,hidx,hi1,w1,w2,w3,f1,f2,decide_true,Bool.and_self,Bool.not_false,cond_true,bnds,ha]
      | cons a r=>simp only [rd42_0,encB,RT.val,Int.ofNat_eq_natCast,hki,h0,hidx,hi1,w1,w2,w3,f1,f2,decide_true,Bool.and_self,Bool.not_false,cond_true,bnds,ha]
    | some h =>
      obtain ⟨f1,f2,f3,f4,f5,f6⟩:=F92_some hv h81k ha
      obtain ⟨a,b,ih⟩:=loop42 hv g3 few h81 m (k+1) (L++[⟨wLo c3 (k:Int),getInt c3 k,h.xl,h.xh,h.yl,h.yh⟩]) (wLo c3 (k:Int)) (wHi c3 (k:Int)) (by omega) (by simp;omega)
      refine ⟨a,b,(loopR_next ?_).trans (ih.trans ?_)⟩
      · cases L with
        | nil =>
          simp only [rd42_0,encB,RT.val,Int.ofNat_eq_natCast,hki,h0,hidx,hi1,w1,w2,w3,f1,f2,f3,f4,f5,f6,decide_true,Bool.and_self,Bool.not_true,cond_true,cond_false,h3]
          rfl
        | cons q r =>
          have hb:=apB_arrB (q::r) ⟨wLo c3 (k:Int),getInt c3 k,h.xl,h.xh,h.yl,h.yh⟩
          simp only [Bd.row]at hb
          have hl1:((q::r).length+1)*48≤140737488355328∧(q::r).length+1≤4611686018427387904∧0+(q::r).length*6≤(arrB (q::r)).size:=by rw [size_arrB];omega
          simp only [rd42_0,encB,RT.val,Int.ofNat_eq_natCast,hki,h0,hidx,hi1,w1,w2,w3,f1,f2,f3,f4,f5,f6,decide_true,Bool.and_self,Bool.not_true,cond_true,cond_false,h3,hb,allFz_arrB,hl1.1,hl1.2.1,hl1.2.2]
          simp [encB]
      · conv=>rhs;unfold bnds
        rw [ha]
        cases bnds c0 c c3 n n2 age shear tick now m (k+1) with
        | none=>rfl
        | some R=>simp
end
theorem cellsB (L:List Bd) {i:Nat}(h:i<L.length):∀j,lget (arrB L).toList (0+i*6+j)=lget ((L[i]).row++(rowsB L).drop (i*6+6)) j:=by
  obtain ⟨r,e⟩:=drop_rows L i h
  intro j
  have hr:(rowsB L).drop (i*6+6)=r:=by
    rw [← List.drop_drop,e];rfl
  rw [hr,← e,lget_drop,Nat.zero_add];rfl
theorem getB (L:List Bd) {i:Nat}(h:i<L.length):getInt (arrB L) (0+i*6)=L[i].f∧getInt (arrB L) (0+i*6+1)=L[i].t∧getInt (arrB L) (0+i*6+1+1)=L[i].xl ∧
    getInt (arrB L) (0+i*6+1+1+1)=L[i].xh∧getInt (arrB L) (0+i*6+1+1+1+1)=L[i].yl∧getInt (arrB L) (0+i*6+1+1+1+1+1)=L[i].yh:=by
  have g:=cellsB L h
  have g0:=g 0
  have g1:=g 1
  have g2:=g 2
  have g3:=g 3
  have g4:=g 4
  have g5:=g 5
  simp only [Nat.add_zero,Nat.add_assoc,Nat.reduceAdd]at g0 g1 g2 g3 g4 g5
  simp only [getInt,Nat.add_assoc,Nat.reduceAdd,g0,g1,g2,g3,g4,g5]
  exact ⟨rfl,rfl,rfl,rfl,rfl,rfl⟩
def spW (a b:Int):Prop:=a≤b∧-20000≤a∧a≤20000∧-20000≤b∧b≤20000
def okBd (b:Bd)(from_:Int):Prop:=b.f=from_∧b.f<b.t∧b.t≤100000000∧spW b.xl b.xh∧spW b.yl b.yh
def valF:Int→List Bd→Prop
  | _,[]=>True
  | f,b::r=>okBd b f∧valF b.t r
theorem F105_of {a:Int}(h1:-20000≤a) (h2:a≤20000):F105_ok a=true∧F105_0 a=true:=by
  have e:F105 a=some ⟨true⟩:=by
    unfold F105 rt105
    simp only [RT.val,h1,h2,decide_true,cond_true]
  exact ⟨by simp only [F105_ok,e];rfl,by simp only [F105_0,e]⟩
theorem F108_of {a b:Int}(h:spW a b):F108_ok a b=true∧F108_0 a b=true:=by
  obtain ⟨h1,h2,h3,h4,h5⟩:=h
  have e:F108 a b=some ⟨true⟩:=by
    unfold F108 rt108
    simp only [RT.val,h1,(F105_of h2 h3).1,(F105_of h2 h3).2,(F105_of h4 h5).1,(F105_of h4 h5).2,decide_true,cond_true]
  exact ⟨by simp only [F108_ok,e];rfl,by simp only [F108_0,e]⟩
theorem F68_of {b:Bd}{f:Int}(h:okBd b f):F68_ok b.f b.t b.xl b.xh b.yl b.yh f=true∧F68_0 b.f b.t b.xl b.xh b.yl b.yh f=0:=by
  obtain ⟨h1,h2,h3,h4,h5⟩:=h
  obtain ⟨x1,x2⟩:=F108_of h4
  obtain ⟨y1,y2⟩:=F108_of h5
  have e:F68 b.f b.t b.xl b.xh b.yl b.yh f=some ⟨0⟩:=by
    unfold F68 rt68
    simp only [RT.val,h1,decide_eq_false (show ¬b.t≤f by omega),decide_eq_false (show ¬(100000000:Int)<b.t by omega),x1,x2,y1,y2,decide_true,Bool.not_true,cond_true,cond_false]
  exact ⟨by simp only [F68_ok,e];rfl,by simp only [F68_0,e]⟩
theorem loop25 (L:List Bd)(hn:L.length≤1000):∀(m i:Nat) (f:Int),i+m=L.length→valF f (L.drop i) →
    loopR rd25_0 ⟨f,arrB L,0,L.length,(L.length:Int),(i:Int)⟩=some .k1
  | 0,i,f,e,h=>loopR_done (by
      have h1:¬((i:Int)<(L.length:Int)):=by omega
      simp only [rd25_0,RT.val,h1,decide_false,cond_false])
  | m+1,i,f,e,h=>by
    have hi:i<L.length:=by omega
    rw [List.drop_eq_getElem_cons hi]at h
    obtain ⟨ho,hr⟩:=h
    refine (loopR_next ?_).trans (loop25 L hn m (i+1) (L[i]).t (by omega) hr)
    have hki:(i:Int)<(L.length:Int):=by omega
    have h0:(0:Int)≤(i:Int):=by omega
    have h3:IntKind.wrap .i64 ((i:Int)+1)=((i+1:Nat):Int):=by rw [wrap64_id (by omega) (by omega)];omega
    have hr:=rdOk_arrB L hi
    obtain ⟨b1,b2,b3,b4,b5,b6⟩:=getB L hi
    obtain ⟨k1,k2⟩:=F68_of ho
    simp only [rd25_0,RT.val,Int.ofNat_eq_natCast,hki,h0,Int.toNat_natCast,hr,b1,b2,b3,b4,b5,b6,k1,k2,h3,decide_true,Bool.and_self,Bool.not_true,cond_true,cond_false]
theorem F25_of {L:List Bd}(h1:1≤L.length) (h2:L.length≤20) (h:valF 0 L):F25_ok (arrB L) 0 L.length=true∧F25_0 (arrB L) 0 L.length=0∧F25_1 (arrB L) 0 L.length=0:=by
  have hL:=loop25 L (by omega) L.length 0 0 (by omega) h
  have hL':L25_0 ⟨0,arrB L,0,L.length,Int.ofNat L.length,0⟩=_:=hL
  have e:F25 (arrB L) 0 L.length=some ⟨0,0⟩:=by
    unfold F25 rt25
    simp only [RT.val,decide_eq_false (show ¬Int.ofNat L.length<1 by simp only [Int.ofNat_eq_natCast];omega),decide_eq_false (show ¬(20:Int)<Int.ofNat L.length by simp only [Int.ofNat_eq_natCast];omega),eqCode_self,L25_0_k0,L25_0_k1,hL',cond_true,cond_false]
  exact ⟨by simp only [F25_ok,e];rfl,by simp only [F25_0,e],by simp only [F25_1,e]⟩
end
end Go.Proofs.Ytfnogghclaijlaa
namespace Go.Proofs.Ytfnogghclaijlaa
open Go.Gi Go.RowKit Go.Proofs.Ytfnogghclaijlaa.Old
noncomputable section
set_option maxRecDepth 100000
set_option maxHeartbeats 4000000
structure R70 where
  (r0:Bool)
structure A70 where
  (a0:Int)
def rt70 (a0:Int):RT R70 :=
  .br (decide ((0:Int)≤a0)) (.leaf ⟨(decide (a0<(100000000:Int)))⟩) (.leaf ⟨false⟩)
def en70 (r:R70):Value:=(.bool r.r0)
theorem T70  (a0:Int):evC Try.prog (Ans.c (fun _=>none:Ans)) 60 (.call 70 ⟨[(.int .i64 a0)]⟩ ⟨[],0,[]⟩) (frzK [0])=(rt70 a0).out (fun r=>.ret (en70 r) ⟨[],0,[]⟩):=by kernel_rfl
def F70 (a0:Int):Option R70:=(rt70 a0).val
section
variable (a0:Int)
def F70_ok:Bool:=(F70 a0).isSome
def F70_0:Bool:=match F70 a0 with | some r=>r.r0 | none=>false
end
def dec70:Task→Option (A70×Hp)
  | .call g ⟨[(.int .i64 a0)]⟩ h=>(match Nat.beq g 70 with | true=>some (⟨a0⟩,h) | false=>none)
  | _=>none
def alt70 (x:A70)(h:Hp):AT:=.br (F70_ok x.a0) (.leaf (.ret (.bool (F70_0 x.a0)) h)) .no
def p70:Ans:=fnAns dec70 alt70
theorem ha70:∀(x:A70) (h:Hp)(o:Out),(alt70 x h).out=some o→∃r,(rt70 x.a0).val=some r∧o=.ret (en70 r) h:=by
  intro x h o e
  unfold alt70 at e
  cases hF:F70 x.a0 with
  | none=>simp [F70_ok,hF,AT.out]at e
  | some r =>
    refine ⟨r,hF,?_⟩
    simp only [F70_ok,F70_0,hF,AT.out,Option.isSome_some,cond_true,Option.some.injEq]at e
    rw [← e];rfl
theorem hd70:∀(t:Task) (x:A70)(h:Hp),dec70 t=some (x,h)→t=.call 70 ⟨[(.int .i64 x.a0)]⟩ h:=by
  intro t x h e
  unfold dec70 at e
  split at e
  case h_2=>cases e
  split at e
  case h_2=>cases e
  rename_i hg
  simp only [Option.some.injEq,Prod.mk.injEq]at e
  obtain ⟨rfl,rfl⟩:=e
  rw [Nat.eq_of_beq_eq_true hg]
theorem known70:Known Try.prog p70:=by
  exact Known.fn noNG mixed (Known.nothing Try.prog) (n:=60) (zs:=[0]) 70 (fun x:A70=>[(.int .i64 x.a0)]) (fun x=>rt70 x.a0) en70 (fun x=>T70  x.a0) (fun x=>rfl) dec70 alt70 hd70 ha70
structure R40 where
  (r0 r1:Int)
  (r2 r3 r4:Int)
structure A40 where
  (a0:Array Value)
  (a1 a2:Nat)
  (a3:Array Value)
  (a4 a5:Nat)
  (a6:Array Value)
  (a7 a8:Nat)
  (a9 a10:Int)
  (a11 a12 a13:Int)
def rt40 (a0:Array Value)(a1 a2:Nat)(a3:Array Value)(a4 a5:Nat)(a6:Array Value)(a7 a8:Nat)(a9 a10:Int)(a11 a12 a13:Int):RT R40 :=
  .br (F20_ok a0 a1 a2 a3 a4 a5 a6 a7 a8 a9 a10) (.br (not (decide ((F20_2 a0 a1 a2 a3 a4 a5 a6 a7 a8 a9 a10)=(0:Int)))) (.leaf ⟨(0:Int),(0:Int),(0:Int),(0:Int),(F20_2 a0 a1 a2 a3 a4 a5 a6 a7 a8 a9 a10)⟩) (.br (F70_ok a11) (.br (not (F70_0 a11)) (.leaf ⟨(0:Int),(0:Int),(0:Int),(0:Int),(7:Int)⟩) (.br (F91_ok a11 a11 a12 a13) (.br (not (F91_0 a11 a11 a12 a13)) (.leaf ⟨(0:Int),(0:Int),(0:Int),(0:Int),(7:Int)⟩) (.br (F92_ok a0 a1 a2 a3 a4 a5 a6 a7 a8 a9 a10 a11 a11 a12 a13) (.br (not (F92_4 a0 a1 a2 a3 a4 a5 a6 a7 a8 a9 a10 a11 a11 a12 a13)) (.leaf ⟨(0:Int),(0:Int),(0:Int),(0:Int),(9:Int)⟩) (.br (decide ((F92_2 a0 a1 a2 a3 a4 a5 a6 a7 a8 a9 a10 a11 a11 a12 a13)=(F92_2 a0 a1 a2 a3 a4 a5 a6 a7 a8 a9 a10 a11 a11 a12 a13))) (.br (decide ((F92_3 a0 a1 a2 a3 a4 a5 a6 a7 a8 a9 a10 a11 a11 a12 a13)=(F92_3 a0 a1 a2 a3 a4 a5 a6 a7 a8 a9 a10 a11 a11 a12 a13))) (.br (decide ((F92_2 a0 a1 a2 a3 a4 a5 a6 a7 a8 a9 a10 a11 a11 a12 a13)=(F92_2 a0 a1 a2 a3 a4 a5 a6 a7 a8 a9 a10 a11 a11 a12 a13)))
 (.br (decide ((F92_3 a0 a1 a2 a3 a4 a5 a6 a7 a8 a9 a10 a11 a11 a12 a13)=(F92_3 a0 a1 a2 a3 a4 a5 a6 a7 a8 a9 a10 a11 a11 a12 a13))) (.leaf ⟨(F92_0 a0 a1 a2 a3 a4 a5 a6 a7 a8 a9 a10 a11 a11 a12 a13),(F92_1 a0 a1 a2 a3 a4 a5 a6 a7 a8 a9 a10 a11 a11 a12 a13),(F92_2 a0 a1 a2 a3 a4 a5 a6 a7 a8 a9 a10 a11 a11 a12 a13),(F92_3 a0 a1 a2 a3 a4 a5 a6 a7 a8 a9 a10 a11 a11 a12 a13),(0:Int)⟩) (.no)) (.no)) (.no)) (.no))) (.no))) (.no))) (.no))) (.no)
def en40 (r:R40):Value:=(.tuple ⟨[(.agg ⟨[(.int .i64 r.r0),(.int .i64 r.r1)]⟩),(.agg ⟨[(.int .i64 r.r2),(.int .i64 r.r3)]⟩),(.int .i64 r.r4)]⟩)
theorem T40  (a0:Array Value) (a1 a2:Nat) (a3:Array Value) (a4 a5:Nat) (a6:Array Value) (a7 a8:Nat) (a9 a10:Int) (a11 a12 a13:Int):evC Try.prog (Ans.c ((p20V 20).or (p70.or (p91.or p92)))) 60 (.call 40 ⟨[(.agg ⟨[(lstV a0 a1 a2 7),(lstV a3 a4 a5 5),(lstV a6 a7 a8 1),(.int .i64 a9),(.int .i64 a10)]⟩),(.int .i64 a11),(.int .i64 a12),(.int .i64 a13)]⟩ ⟨[],0,[]⟩) (frzK [0,0,0])=(rt40 a0 a1 a2 a3 a4 a5 a6 a7 a8 a9 a10 a11 a12 a13).out (fun r=>.ret (en40 r) ⟨[],0,[]⟩):=by kernel_rfl
def F40 (a0:Array Value)(a1 a2:Nat)(a3:Array Value)(a4 a5:Nat)(a6:Array Value)(a7 a8:Nat)(a9 a10:Int)(a11 a12 a13:Int):Option R40:=(rt40 a0 a1 a2 a3 a4 a5 a6 a7 a8 a9 a10 a11 a12 a13).val
section
variable (a0:Array Value) (a1 a2:Nat) (a3:Array Value) (a4 a5:Nat) (a6:Array Value) (a7 a8:Nat) (a9 a10:Int) (a11 a12 a13:Int)
def F40_ok:Bool:=(F40 a0 a1 a2 a3 a4 a5 a6 a7 a8 a9 a10 a11 a12 a13).isSome
def F40_0:Int:=match F40 a0 a1 a2 a3 a4 a5 a6 a7 a8 a9 a10 a11 a12 a13 with | some r=>r.r0 | none=>0
def F40_1:Int:=match F40 a0 a1 a2 a3 a4 a5 a6 a7 a8 a9 a10 a11 a12 a13 with | some r=>r.r1 | none=>0
def F40_2:Int:=match F40 a0 a1 a2 a3 a4 a5 a6 a7 a8 a9 a10 a11 a12 a13 with | some r=>r.r2 | none=>0
def F40_3:Int:=match F40 a0 a1 a2 a3 a4 a5 a6 a7 a8 a9 a10 a11 a12 a13 with | some r=>r.r3 | none=>0
def F40_4:Int:=match F40 a0 a1 a2 a3 a4 a5 a6 a7 a8 a9 a10 a11 a12 a13 with | some r=>r.r4 | none=>0
end
def dec40:Task→Option (A40×Hp)
  | .call g ⟨[(.agg ⟨[(.func (.via 0 ⟨[]⟩ 0 true) a0 ⟨[.slice (some ⟨0,a1,none⟩) a2 7]⟩),(.func (.via 0 ⟨[]⟩ 0 true) a3 ⟨[.slice (some ⟨0,a4,none⟩) a5 5]⟩),(.func (.via 0 ⟨[]⟩ 0 true) a6 ⟨[.slice (some ⟨0,a7,none⟩) a8 1]⟩),(.int .i64 a9),(.int .i64 a10)]⟩),(.int .i64 a11),(.int .i64 a12),(.int .i64 a13)]⟩ h=>(match Nat.beq g 40 with | true=>some (⟨a0,a1,a2,a3,a4,a5,a6,a7,a8,a9,a10,a11,a12,a13⟩,h) | false=>none)
  | _=>none
def alt40 (x:A40)(h:Hp):AT:=.br (F40_ok x.a0 x.a1 x.a2 x.a3 x.a4 x.a5 x.a6 x.a7 x.a8 x.a9 x.a10 x.a11 x.a12 x.a13) (.leaf (.ret (.tuple ⟨[(.agg ⟨[(.int .i64 (F40_0 x.a0 x.a1 x.a2 x.a3 x.a4 x.a5 x.a6 x.a7 x.a8 x.a9 x.a10 x.a11 x.a12 x.a13)),(.int .i64 (F40_1 x.a0 x.a1 x.a2 x.a3 x.a4 x.a5 x.a6 x.a7 x.a8 x.a9 x.a10 x.a11 x.a12 x.a13))]⟩),(.agg ⟨[(.int .i64 (F40_2 x.a0 x.a1 x.a2 x.a3 x.a4 x.a5 x.a6 x.a7 x.a8 x.a9 x.a10 x.a11 x.a12 x.a13)),(.int .i64 (F40_3 x.a0 x.a1 x.a2 x.a3 x.a4 x.a5 x.a6 x.a7 x.a8 x.a9 x.a10 x.a11 x.a12 x.a13))]⟩),(.int .i64 (F40_4 x.a0 x.a1 x.a2 x.a3 x.a4 x.a5 x.a6 x.a7 x.a8 x.a9 x.a10 x.a11 x.a12 x.a13))]⟩) h)) .no
def p40:Ans:=fnAns dec40 alt40
theorem ha40:∀(x:A40) (h:Hp)(o:Out),(alt40 x h).out=some o→∃r,(rt40 x.a0 x.a1 x.a2 x.a3 x.a4 x.a5 x.a6 x.a7 x.a8 x.a9 x.a10 x.a11 x.a12 x.a13).val=some r∧o=.ret (en40 r) h:=by
  intro x h o e
  unfold alt40 at e
  cases hF:F40 x.a0 x.a1 x.a2 x.a3 x.a4 x.a5 x.a6 x.a7 x.a8 x.a9 x.a10 x.a11 x.a12 x.a13 with
  | none=>simp [F40_ok,hF,AT.out]at e
  | some r =>
    refine ⟨r,hF,?_⟩
    simp only [F40_ok,F40_0,F40_1,F40_2,F40_3,F40_4,hF,AT.out,Option.isSome_some,cond_true,Option.some.injEq]at e
    rw [← e];rfl
theorem hd40:∀(t:Task) (x:A40)(h:Hp),dec40 t=some (x,h)→t=.call 40 ⟨[(.agg ⟨[(lstV x.a0 x.a1 x.a2 7),(lstV x.a3 x.a4 x.a5 5),(lstV x.a6 x.a7 x.a8 1),(.int .i64 x.a9),(.int .i64 x.a10)]⟩),(.int .i64 x.a11),(.int .i64 x.a12),(.int .i64 x.a13)]⟩ h:=by
  intro t x h e
  unfold dec40 at e
  split at e
  case h_2=>cases e
  split at e
  case h_2=>cases e
  rename_i hg
  simp only [Option.some.injEq,Prod.mk.injEq]at e
  obtain ⟨rfl,rfl⟩:=e
  rw [Nat.eq_of_beq_eq_true hg]
theorem known40:Known Try.prog p40:=by
  exact Known.fn noNG mixed (Known.or (known20V (known20v known20)) (Known.or known70 (Known.or known91 known92))) (n:=60) (zs:=[0,0,0]) 40 (fun x:A40=>[(.agg ⟨[(lstV x.a0 x.a1 x.a2 7),(lstV x.a3 x.a4 x.a5 5),(lstV x.a6 x.a7 x.a8 1),(.int .i64 x.a9),(.int .i64 x.a10)]⟩),(.int .i64 x.a11),(.int .i64 x.a12),(.int .i64 x.a13)]) (fun x=>rt40 x.a0 x.a1 x.a2 x.a3 x.a4 x.a5 x.a6 x.a7 x.a8 x.a9 x.a10 x.a11 x.a12 x.a13) en40 (fun x=>T40  x.a0 x.a1 x.a2 x.a3 x.a4 x.a5 x.a6 x.a7 x.a8 x.a9 x.a10 x.a11 x.a12 x.a13) (fun x=>rfl) dec40 alt40 hd40 ha40
end
end Go.Proofs.Ytfnogghclaijlaa
namespace Go.Proofs.Ytfnogghclaijlaa
open Go.Gi Go.RowKit Go.Proofs.Ytfnogghclaijlaa.Old
noncomputable section
set_option maxRecDepth 100000
def tkB (x:Int):Bool:=decide (0≤x)&&decide (x≤100000)
def hgB (x:Int):Bool:=decide (0≤x)&&decide (x≤99999999)
theorem F70_of (a:Int):F70_ok a=true∧F70_0 a=hgB a:=by
  have h:F70 a=some ⟨hgB a⟩:=by
    have e:decide (a<100000000)=decide (a≤99999999):=by rw [decide_eq_decide];omega
    unfold F70 rt70 hgB
    by_cases h:0≤a<;>simp [RT.val,h,e]
  exact ⟨by simp [F70_ok,h],by simp [F70_0,h]⟩
section
variable {c0 c c3:Array Value}{n n2 n3:Nat}{age shear h x y:Int}
def atS (c0 c c3:Array Value)(n n2 n3:Nat)(age shear h x y:Int):Hd×Int :=
  if F20_2 c0 0 n c 0 n2 c3 0 n3 age shear=0 then
    (if (hgB h&&(tkB x&&tkB y))=true then
      (match ansO c0 c n n2 age shear h h x y with
       | some H=>(H,0)
       | none=>(⟨0,0,0,0,false⟩,9))
     else (⟨0,0,0,0,false⟩,7))
  else (⟨0,0,0,0,false⟩,F20_2 c0 0 n c 0 n2 c3 0 n3 age shear)
theorem hgQ (hh:hgB h=true)(hx:tkB x=true)(hy:tkB y=true):Qst h h x y:=by
  simp only [hgB,tkB,Bool.and_eq_true,decide_eq_true_eq]at hh hx hy
  exact ⟨⟨by omega,by omega⟩,⟨by omega,by omega⟩,hx,hy⟩
theorem F40_eq (g1:GL L7 7 c0 n)(g2:GL L5 5 c n2)(g3:GL L1 1 c3 n3):F40 c0 0 n c 0 n2 c3 0 n3 age shear h x y =
    some ⟨(atS c0 c c3 n n2 n3 age shear h x y).1.xl,(atS c0 c c3 n n2 n3 age shear h x y).1.xh,(atS c0 c c3 n n2 n3 age shear h x y).1.yl,(atS c0 c c3 n n2 n3 age shear h x y).1.yh,(atS c0 c c3 n n2 n3 age shear h x y).2⟩:=by
  have hok:=F20_ok_of (age:=age) (shear:=shear) g1 g2 g3
  obtain ⟨k1,k2⟩:=F70_of h
  have k4:F91_0 h h x y=(tkB x&&tkB y):=F91_0_eq h h x y
  unfold F40 rt40 atS
  by_cases hz:F20_2 c0 0 n c 0 n2 c3 0 n3 age shear=0
  · obtain ⟨hv,_,hc⟩:=vld g1 g2 g3 hz
    rw [if_pos hz]
    by_cases hh:hgB h=true
    · by_cases hxy:(tkB x&&tkB y)=true
      · rw [if_pos (by rw [hh,hxy];rfl)]
        have hq:=hgQ hh (Bool.and_eq_true _ _ ▸ hxy).1 (Bool.and_eq_true _ _ ▸ hxy).2
        have h81:F81ok c0 0 n c 0 n2 c3 0 n3 age shear h h x y=true:=dec_iff.2 ⟨hok,hz,hq⟩
        cases ha:ansO c0 c n n2 age shear h h x y with
        | none =>
          obtain ⟨f1,f2⟩:=F92_none hv h81 ha
          simp only [RT.val,hok,hz,k1,k2,hh,F91_ok_eq,k4,hxy,f1,f2,decide_true,Bool.not_true,Bool.not_false,cond_true,cond_false]
        | some H =>
          obtain ⟨f1,f2,f3,f4,f5,f6⟩:=F92_some hv h81 ha
          simp only [RT.val,hok,hz,k1,k2,hh,F91_ok_eq,k4,hxy,f1,f2,f3,f4,f5,f6,decide_true,Bool.not_true,cond_true,cond_false]
      · rw [if_neg (by rw [hh];simpa using hxy)]
        rw [Bool.not_eq_true]at hxy
        simp only [RT.val,hok,hz,k1,k2,hh,F91_ok_eq,k4,hxy,decide_true,Bool.not_true,Bool.not_false,cond_true,cond_false]
    · rw [if_neg (by simp [hh])]
      rw [Bool.not_eq_true]at hh
      simp only [RT.val,hok,hz,k1,k2,hh,decide_true,Bool.not_true,Bool.not_false,cond_true,cond_false]
  · rw [if_neg hz]
    simp only [RT.val,hok,hz,decide_false,Bool.not_false,cond_true]
def bnS (c0 c c3:Array Value)(n n2 n3:Nat)(age shear x y:Int):List Bd×Int :=
  if F20_2 c0 0 n c 0 n2 c3 0 n3 age shear=0 then
    (if (tkB x&&tkB y)=true then
      (match bnds c0 c c3 n n2 age shear x y n3 0 with
       | some R=>(R,0)
       | none=>([],9))
     else ([],7))
  else ([],F20_2 c0 0 n c 0 n2 c3 0 n3 age shear)
theorem tkQ {k:Nat}(hc:∀k,k<n3→1≤getInt c3 k∧getInt c3 k≤100000000) (hk:k<n3) (hxy:(tkB x&&tkB y)=true):Qst (wLo c3 (k:Int)) (wHi c3 (k:Int)) x y :=
  qst hc (show qErr n3 (k:Int) x y=0 by
    unfold qErr
    rw [if_neg (by omega)]
    exact if_pos hxy)
theorem F42_eq (g1:GL L7 7 c0 n)(g2:GL L5 5 c n2)(g3:GL L1 1 c3 n3):F42 c0 0 n c 0 n2 c3 0 n3 age shear x y =
    some ⟨arrB (bnS c0 c c3 n n2 n3 age shear x y).1,0,(bnS c0 c c3 n n2 n3 age shear x y).1.length,(bnS c0 c c3 n n2 n3 age shear x y).2⟩:=by
  have hok:=F20_ok_of (age:=age) (shear:=shear) g1 g2 g3
  have k4:F91_0 0 0 x y=(tkB x&&tkB y):=F91_0_eq 0 0 x y
  unfold F42 rt42 bnS
  by_cases hz:F20_2 c0 0 n c 0 n2 c3 0 n3 age shear=0
  · obtain ⟨hv,hn,hc⟩:=vld g1 g2 g3 hz
    rw [if_pos hz]
    by_cases hxy:(tkB x&&tkB y)=true
    · rw [if_pos hxy]
      obtain ⟨a,b,hL⟩:=loop42 (tick:=x) (now:=y) hv g3 (by omega) (fun k hk=>dec_iff.2 ⟨hok,hz,tkQ hc hk hxy⟩) n3 0 [] 0 0 (by omega) rfl
      have hL':L42_0 ⟨none,c3,0,n3,Int.ofNat n3,0,c0,0,n,c,0,n2,c3,0,n3,age,shear,0,0,x,y⟩=_:=hL
      cases hb:bnds c0 c c3 n n2 age shear x y n3 0 with
      | none =>
        rw [hb]at hL'
        simp only [RT.val,hok,hz,F91_ok_eq,k4,hxy,eqCode_self,L42_0_k0,Ql0,Ql1,Ql2,Ql3,hL',decide_true,Bool.not_true,cond_true,cond_false]
        rfl
      | some R =>
        rw [hb]at hL'
        simp only [RT.val,hok,hz,F91_ok_eq,k4,hxy,eqCode_self,L42_0_k0,L42_0_k1,Qm0,Qm1,Qm2,hL',decide_true,Bool.not_true,cond_true,cond_false,List.nil_append]
    · rw [if_neg hxy]
      rw [Bool.not_eq_true]at hxy
      simp only [RT.val,hok,hz,F91_ok_eq,k4,hxy,decide_true,Bool.not_true,Bool.not_false,cond_true,cond_false]
      rfl
  · rw [if_neg hz]
    simp only [RT.val,hok,hz,decide_false,Bool.not_false,cond_true]
    rfl
end
section
variable {c0 c c3:Array Value}{n n2 n3:Nat}{age shear lo hi tick now x y:Int}
theorem cuts_up (g1:GL L7 7 c0 n)(g2:GL L5 5 c n2)(g3:GL L1 1 c3 n3)(h:F20_2 c0 0 n c 0 n2 c3 0 n3 age shear=0):∀k,0<k→k<n3→getInt c3 (k-1)<getInt c3 k:=by
  have hz:=ck_zero (show ck3 (some ⟨0,0,none⟩) (some ⟨1,0,none⟩) (some ⟨2,0,none⟩) n n2 n3 age shear [obF n c0,obF n2 c,obF n3 c3]=0 from h)
  intro k h0 hk
  have:=hz.cut k hk
  rw [arrF2 (by omega)]at this
  unfold tmE at this
  simp only [offOf,Nat.zero_add]at this
  by_cases h1:inB (getInt c3 k) 1 100000000=false
  · rw [if_pos h1]at this;omega
  · rw [if_neg h1]at this
    by_cases h2:0<k∧getInt c3 k≤getInt c3 (k-1)
    · simp [h2]at this
    · omega
theorem ansO_sp {h:Hd}(e:ansO c0 c n n2 age shear lo hi tick now=some h):spW h.xl h.xh∧spW h.yl h.yh:=by
  unfold ansO at e
  by_cases he:emp (all c0 c n2 age shear lo hi tick now (chB 128 (-1)))=true
  · rw [if_pos he]at e
    split at e
    · rename_i s hs
      simp only [Option.some.injEq]at e
      subst e
      exact all_spW (cul_mem n 0 (by rw [hs];exact List.mem_cons_self))
    · cases e
  · rw [if_neg he]at e
    simp only [Option.some.injEq]at e
    subst e
    exact all_spW (by simpa using he)
theorem wLo_next {k:Nat}:wLo c3 ((k+1:Nat):Int)=getInt c3 k:=by
  unfold wLo
  rw [if_pos (by omega)]
  congr 1
  omega
theorem bnds_valF (up:∀k,0<k→k<n3→getInt c3 (k-1)<getInt c3 k)(hc:∀k,k<n3→1≤getInt c3 k∧getInt c3 k≤100000000):∀m k R,k+m=n3→bnds c0 c c3 n n2 age shear tick now m k=some R→valF (wLo c3 (k:Int)) R
  | 0,k,R,e,h=>by simp only [bnds,Option.some.injEq]at h;subst h;trivial
  | m+1,k,R,e,h=>by
    unfold bnds at h
    split at h
    · cases h
    · rename_i H hH
      split at h
      · cases h
      · rename_i R' h'
        simp only [Option.some.injEq]at h
        subst h
        have hk:=hc k (by omega)
        have hlo:wLo c3 (k:Int)<getInt c3 k:=by
          cases k with
          | zero=>unfold wLo;rw [if_neg (by omega)];omega
          | succ k=>rw [wLo_next];exact up (k+1) (by omega) (by omega)
        obtain ⟨s1,s2⟩:=ansO_sp hH
        refine ⟨⟨rfl,hlo,hk.2,s1,s2⟩,?_⟩
        rw [← wLo_next]
        exact bnds_valF up hc m (k+1) R' (by omega) h'
theorem bnds_get:∀m k R,bnds c0 c c3 n n2 age shear tick now m k=some R→∀i (hi:i<R.length),∃H,ansO c0 c n n2 age shear (wLo c3 ((k+i:Nat):Int)) (wHi c3 ((k+i:Nat):Int)) tick now=some H∧R[i]=⟨wLo c3 ((k+i:Nat):Int),getInt c3 (k+i),H.xl,H.xh,H.yl,H.yh⟩
  | 0,k,R,h,i,hi=>by simp only [bnds,Option.some.injEq]at h;subst h;simp at hi
  | m+1,k,R,h,i,hi=>by
    unfold bnds at h
    split at h
    · cases h
    · rename_i H hH
      split at h
      · cases h
      · rename_i R' h'
        simp only [Option.some.injEq]at h
        subst h
        cases i with
        | zero=>exact ⟨H,hH,rfl⟩
        | succ i =>
          have:=bnds_get m (k+1) R' h' i (by simpa using hi)
          rw [show k+(i+1)=k+1+i by omega]
          simpa using this
theorem bnds_some:∀m k,(∀i,i<m→∃H,ansO c0 c n n2 age shear (wLo c3 ((k+i:Nat):Int)) (wHi c3 ((k+i:Nat):Int)) tick now=some H)→∃R,bnds c0 c c3 n n2 age shear tick now m k=some R
  | 0,k,h=>⟨[],rfl⟩
  | m+1,k,h=>by
    obtain ⟨H,hH⟩:=h 0 (by omega)
    obtain ⟨R,hR⟩:=bnds_some m (k+1) fun i hi=>by
      have:=h (i+1) (by omega)
      rw [show k+1+i=k+(i+1) by omega]
      exact this
    unfold bnds
    rw [Nat.add_zero]at hH
    rw [hH,hR]
    exact ⟨_,rfl⟩
end
section
variable {c0 c c3:Array Value}{n n2 n3:Nat}{age shear tick now x y:Int}
def winA (c0 c c3:Array Value)(n2:Nat)(age shear tick now:Int)(k:Nat):Hd:=all c0 c n2 age shear (wLo c3 (k:Int)) (wHi c3 (k:Int)) tick now (chB 128 (-1))
theorem F38_at {k:Nat}(g1:GL L7 7 c0 n) (g2:GL L5 5 c n2) (g3:GL L1 1 c3 n3) (hz:F20_2 c0 0 n c 0 n2 c3 0 n3 age shear=0) (hxy:(tkB tick&&tkB now)=true) (hk:k<n3) :
    F38_ok c0 0 n c 0 n2 c3 0 n3 age shear (k:Int) tick now=true∧F38_4 c0 0 n c 0 n2 c3 0 n3 age shear (k:Int) tick now=0∧F38_3 c0 0 n c 0 n2 c3 0 n3 age shear (k:Int) tick now=!emp (winA c0 c c3 n2 age shear tick now k):=by
  have e:=F38_eq (age:=age) (shear:=shear) (k:=(k:Int)) (x:=tick) (y:=now) g1 g2 g3
  have hq:qErr n3 (k:Int) tick now=0:=by
    unfold qErr
    rw [if_neg (by omega)]
    exact if_pos hxy
  unfold blm at e
  rw [if_pos hz,if_pos hq]at e
  by_cases he:emp (winA c0 c c3 n2 age shear tick now k)=true
  · have he':=he
    unfold winA at he
    rw [if_pos he]at e
    refine ⟨by simp only [F38_ok,e];rfl,by simp only [F38_4,e],by simp only [F38_3,e,he'];rfl⟩
  · have he':=he
    unfold winA at he
    rw [if_neg he]at e
    rw [Bool.not_eq_true]at he'
    refine ⟨by simp only [F38_ok,e];rfl,by simp only [F38_4,e],by simp only [F38_3,e,he'];rfl⟩
end
section
variable {c0 c c3:Array Value}{n n2 n3:Nat}{age shear a b now x y:Int}
theorem wLo_pos {i:Nat}(h:0<i):wLo c3 (i:Int)=getInt c3 (i-1):=by
  obtain ⟨k,rfl⟩:∃k,i=k+1:=⟨i-1,by omega⟩
  rw [wLo_next,Nat.add_sub_cancel]
end
structure SdOk (c0:Array Value) (n:Nat) (c:Array Value) (k:Nat):Prop where
  src:0≤getInt c (0+k*5)∧getInt c (0+k*5)<n
  tick:0≤getInt c (0+k*5+1)∧getInt c (0+k*5+1)≤100000
  height:getInt c0 (0+(getInt c (0+k*5)).toNat*7+5)≤getInt c (0+k*5+2)∧getInt c (0+k*5+2)≤getInt c0 (0+(getInt c (0+k*5)).toNat*7+6)
  x:-20000≤getInt c (0+k*5+3)∧getInt c (0+k*5+3)≤20000
  y:-20000≤getInt c (0+k*5+4)∧getInt c (0+k*5+4)≤20000
  uniq:∀j,j<k→¬(getInt c (0+j*5)=getInt c (0+k*5)∧getInt c (0+j*5+1)=getInt c (0+k*5+1)∧getInt c (0+j*5+2)=getInt c (0+k*5+2))
  up:getInt c0 (0+(getInt c (0+k*5)).toNat*7+1)=2→∀j,j<k→getInt c (0+j*5)=getInt c (0+k*5)→getInt c (0+j*5+1)≤getInt c (0+k*5+1)∧getInt c (0+j*5+2)≤getInt c (0+k*5+2)
section
variable {c0 c c3 c':Array Value} {n n2 n3 n2':Nat}{age shear tick now lo hi:Int}
structure Sub (c':Array Value) (n2':Nat) (c:Array Value) (n2:Nat) (f:Nat→Nat):Prop where
  lt:∀j,j<n2'→f j<n2
  up:∀i j,i<j→j<n2'→f i<f j
  le:n2'≤n2
  row:∀j,j<n2'→getInt c' (0+j*5)=getInt c (0+f j*5)∧getInt c' (0+j*5+1)=getInt c (0+f j*5+1)∧getInt c' (0+j*5+2)=getInt c (0+f j*5+2)∧getInt c' (0+j*5+3)=getInt c (0+f j*5+3)∧getInt c' (0+j*5+4)=getInt c (0+f j*5+4)
theorem Sub.ok {f:Nat→Nat}(hs:Sub c' n2' c n2 f) (h:∀k,k<n2→SdOk c0 n c k):∀k,k<n2'→SdOk c0 n c' k:=by
  intro k hk
  obtain ⟨h1,h2,h3,h4,h5,h6,h7⟩:=h (f k) (hs.lt k hk)
  obtain ⟨r1,r2,r3,r4,r5⟩:=hs.row k hk
  refine ⟨by rw [r1];exact h1,by rw [r2];exact h2,by rw [r1,r3];exact h3,by rw [r4];exact h4,by rw [r5];exact h5,fun j hj=>?_,fun hkind j hj=>?_⟩
  · obtain ⟨q1,q2,q3,_,_⟩:=hs.row j (by omega)
    rw [q1,q2,q3,r1,r2,r3]
    exact h6 (f j) (hs.up j k hj hk)
  · obtain ⟨q1,q2,q3,_,_⟩:=hs.row j (by omega)
    rw [r1]at hkind
    rw [q1,q2,q3,r1,r2,r3]
    exact h7 hkind (f j) (hs.up j k hj hk)
end
def isI (v:Value):Prop:=∃z,v=.int .i64 z
theorem GL5_int {c:Array Value}{n:Nat}(g:GL L5 5 c n):∀v∈c.toList,isI v:=by
  intro v hv
  obtain ⟨i,hi,rfl⟩:=List.mem_iff_getElem.1 hv
  have hs:=g.size
  have hi':i<n*5:=by rw [← hs];simpa using hi
  have hr:=g.good.2 (i / 5) (by omega)
  simp only [show L5.length=5 from rfl,show L5=[Leaf.int .i64,.int .i64,.int .i64,.int .i64,.int .i64] from rfl,rdOk,rdLeaf,Bool.and_eq_true]at hr
  have key:∀q,isInt .i64 c q=true→q=i→isI c.toList[i]:=by
    rintro q hq rfl
    have:=isInt_ok hq
    rw [Array.getElem?_eq_some_iff]at this
    obtain ⟨_,h2⟩:=this
    exact ⟨_,by rw [Array.getElem_toList];exact h2⟩
  have hm:i % 5<5:=Nat.mod_lt _ (by omega)
  have hd:=Nat.div_add_mod i 5
  obtain ⟨r0,r1,r2,r3,r4,_⟩:=hr
  rcases (show i % 5=0∨i % 5=1∨i % 5=2∨i % 5=3∨i % 5=4 by omega) with h | h | h | h | h
  · exact key _ r0 (by omega)
  · exact key _ r1 (by omega)
  · exact key _ r2 (by omega)
  · exact key _ r3 (by omega)
  · exact key _ r4 (by omega)
theorem one_of {c:Array Value}(h:∀v∈c.toList,isI v):oneAll c=true:=by
  unfold oneAll
  rw [List.all_eq_true]
  intro v hv
  obtain ⟨z,rfl⟩:=h v hv
  rfl
theorem fz_of {c:Array Value}(h:∀v∈c.toList,isI v):allFz c=true:=by
  unfold allFz
  rw [List.all_eq_true]
  intro v hv
  obtain ⟨z,rfl⟩:=h v hv
  rfl
end
end Go.Proofs.Ytfnogghclaijlaa
