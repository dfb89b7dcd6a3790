/- Part 4 of the texts below the claim. Conditions: none. -/
import Derived.Test.YtkcahhbhfmdpmaaMg3
set_option linter.unusedVariables false
set_option linter.unusedSimpArgs false
namespace Go.Gi
open Go.RowKit
noncomputable section
structure Plan (P:Program) (sf:Self) (os:Array Oper) (clo:List Nat) (recs:List Rec) (T0:List Value) (h0:Hp) (T1:List Value) (h1:Hp):Prop where
 tr:Tr P sf os recs T0 h0 T1 h1
 pw:recs.Pairwise (fun a b=>a.i≠b.i∧cl clo a.i b.i=false)
 pre:∀(pre:List Rec) (q:Rec) (post:List Rec),recs=pre++q::post→∀k,cl clo q.i k=true→∃r∈pre,r.i=k
 all:∀i,i<os.size→∃r∈recs,r.i=i
 clos:∀i,i<os.size→∀k,cl clo i k=true↔∃d∈((os[i]?).map depsOf).getD [],d=k∨cl clo d k=true
 lt:∀r∈recs,r.i<os.size
 pair:∀r∈recs,∀q∈recs,pairOk P os clo r q=true
theorem plan_of {P:Program}{self:Self}{os:Array Oper}{order clo:List Nat}{recs:List Rec}{T0 T1:List Value}{h0 h1:Hp}
  (hp:planOk os order clo=true) (hr:drun P self os order T0 h0=some (recs,T1,h1)) (hc:dchk P os clo recs=true):Plan P self os clo recs T0 h0 T1 h1:=by
 simp only[planOk,Bool.and_eq_true,List.all_eq_true,List.mem_range,beq_iff_eq,decide_eq_true_eq,List.contains_iff_mem]at hp;obtain ⟨⟨⟨p1,p2⟩,p3⟩,p4⟩:=hp;obtain ⟨t1,rfl⟩:=drun_tr _ _ _ _ _ _ hr;obtain ⟨o1,o2,o3⟩:=orderOk_spec p2
 refine ⟨t1,?_,?_,?_,?_,?_,?_⟩
 ·rw[List.pairwise_map]at o2;exact o2
 ·intro pre q post e k hk
  rcases o3 (pre.map (·.i)) q.i (post.map (·.i)) (by rw[e];simp) k hk with h | h
  ·simp at h
  ·obtain ⟨r,hr,e⟩:=List.mem_map.1 h
   exact ⟨r,hr,e⟩
 ·intro i hi
  obtain ⟨r,hr,e⟩:=List.mem_map.1 (p1 i hi);exact ⟨r,hr,e⟩
 ·intro i hi k
  unfold cl;rw[p3 i hi,cloOf_bit];exact Iff.rfl
 ·intro r hr
  exact p4 r.i (List.mem_map.2 ⟨r,hr,rfl⟩)
 ·intro r hr q hq
  simp only[dchk,List.all_eq_true]at hc;exact hc r hr q hq
def Good (clo:List Nat)(D:Nat→Bool)(q:Nat):Prop:=(∀j k,D j=true→cl clo j k=true→D k=true)∧D q=false∧∀k,cl clo q k=true→D k=true
theorem Good.agree {clo:List Nat} {D D':Nat→Bool}{q r:Nat}(h:Good clo D q) (h':Good clo D' q) (hc:cl clo q r=true∨cl clo r q=true):D r=D' r:=by
 rcases hc with hc | hc
 ·rw[h.2.2 r hc,h'.2.2 r hc]
 ·have f:∀{D:Nat→Bool},Good clo D q→D r=false:=fun {D} h=>by
   cases e:D r with
   | false=>rfl
   | true=>have:=h.1 r q e hc;rw[h.2.1]at this;cases this
  rw[f h,f h']
section
variable {P:Program}{self:Self}{os:Array Oper}{clo:List Nat}{recs:List Rec}{T0 T1:List Value}{h0 h1:Hp}
def before (pre:List Rec)(i:Nat):Bool:=pre.any fun r=>r.i == i
theorem before_iff {pre:List Rec}{i:Nat}:before pre i=true↔∃r∈pre,r.i=i:=by simp [before]
theorem Plan.good {pre post:List Rec}{q:Rec}(p:Plan P self os clo recs T0 h0 T1 h1) (e:recs=pre++q::post):Good clo (before pre) q.i:=by
 refine ⟨?_,?_,?_⟩
 ·intro j k hj hk
  obtain ⟨r,hr,rfl⟩:=before_iff.1 hj;obtain ⟨p1,p2,rfl⟩:=List.append_of_mem hr
  obtain ⟨s,hs,rfl⟩:=p.pre p1 r (p2++q::post) (by rw[e];simp) k hk
  exact before_iff.2 ⟨s,by simp [hs],rfl⟩
 ·have:=p.pw
  rw[e,List.pairwise_append]at this
  cases hb:before pre q.i with
  | false=>rfl
  | true =>
   obtain ⟨r,hr,he⟩:=before_iff.1 hb
   exact absurd he (this.2.2 r hr q (by simp)).1
 ·intro k hk
  obtain ⟨s,hs,rfl⟩:=p.pre pre q post e k hk;exact before_iff.2 ⟨s,hs,rfl⟩
theorem Plan.other {pre post:List Rec}{q:Rec}(p:Plan P self os clo recs T0 h0 T1 h1) (e:recs=pre++q::post):(∀r∈pre,r.i≠q.i)∧(∀r∈post,q.i≠r.i)∧∀r∈pre,∀s∈post,r.i≠s.i:=by
 have:=p.pw;rw[e,List.pairwise_append,List.pairwise_cons]at this;obtain ⟨_,⟨h2,_⟩,h3⟩:=this
 exact ⟨fun r hr=>(h3 r hr q (by simp)).1,fun r hr=>(h2 r hr).1,fun r hr s hs=>(h3 r hr s (by simp [hs])).1⟩
theorem Plan.atT {pre post:List Rec}{q:Rec}(p:Plan P self os clo recs T0 h0 T1 h1) (e:recs=pre++q::post):TD (before pre) recs T0=q.T:=by
 obtain ⟨o1,o2,o3⟩:=p.other e;have ht:=p.tr;rw[e]at ht ⊢
 rw[ht.split.1,TD_append,TD_cons,(p.good e).2.1,TD_congr (D:=before pre) (D':=fun _=>true) T0 fun r hr=>before_iff.2 ⟨r,hr,rfl⟩]
 refine TD_none _ fun r hr=>?_
 cases hb:before pre r.i with
 | false=>rfl
 | true =>
  obtain ⟨s,hs,he⟩:=before_iff.1 hb;exact absurd he (o3 s hs r hr)
theorem Plan.atH {pre post:List Rec}{q:Rec}(p:Plan P self os clo recs T0 h0 T1 h1) (e:recs=pre++q::post):HD (before pre) recs h0=q.hb:=by
 obtain ⟨o1,o2,o3⟩:=p.other e;have ht:=p.tr;rw[e]at ht ⊢
 rw[ht.split.2,HD_append,HD_cons,(p.good e).2.1,HD_congr (D:=before pre) (D':=fun _=>true) h0 fun r hr _=>before_iff.2 ⟨r,hr,rfl⟩]
 refine HD_none _ fun r hr _=>?_
 cases hb:before pre r.i with
 | false=>rfl
 | true =>
  obtain ⟨s,hs,he⟩:=before_iff.1 hb;exact absurd he (o3 s hs r hr)
theorem not_unord {i j:Nat}(h:(!unord clo i j)=true):cl clo i j=true∨cl clo j i=true:=by
 unfold unord at h
 cases h1:cl clo i j with
 | true=>exact .inl rfl
 | false =>
  cases h2:cl clo j i with
  | true=>exact .inr rfl
  | false=>rw[h1,h2]at h;cases h
theorem Plan.look {D:Nat→Bool}{pre post:List Rec}{q:Rec}(p:Plan P self os clo recs T0 h0 T1 h1) (e:recs=pre++q::post) (hD:Good clo D q.i) {t:Tmp}(ht:t∈q.o.looksAt os):lget (TD D recs T0) t=lget q.T t:=by
 rw[← p.atT e]
 refine TD_get rfl rfl fun r hr hd=>?_
 have hp:=p.pair r hr q (by rw[e];simp)
 simp only[pairOk,hd,Bool.or_eq_true,beq_iff_eq,Bool.and_eq_true]at hp
 rcases hp with hp | hp
 ·rw[hp,hD.2.1,(p.good e).2.1]
 ·refine hD.agree (p.good e) ?_
  rcases hp.1.2 with (h | h) | h
  ·rw[show (looks os q.o).contains t=true from by rw[List.contains_iff_mem];exact ht]at h;cases h
  ·exact .inl h
  ·exact .inr h
theorem Plan.eval {D:Nat→Bool}{pre post:List Rec}{q:Rec}(p:Plan P self os clo recs T0 h0 T1 h1) (e:recs=pre++q::post) (hD:Good clo D q.i):∀x∈q.o.op.operands,evalT (TD D recs T0) x=evalT q.T x:=by
 intro x hx
 cases x with
 | tmp t=>exact p.look e hD (List.mem_append_left _ (List.mem_filterMap.2 ⟨.tmp t,by simpa using hx,rfl⟩))
 | const v=>rfl
 | global g=>rfl
 | func f=>rfl
theorem Plan.wanted {D:Nat→Bool}{pre post:List Rec}{q:Rec}(p:Plan P self os clo recs T0 h0 T1 h1) (e:recs=pre++q::post) (hD:Good clo D q.i):wantedT os (TD D recs T0) q.o=wantedT os q.T q.o:=by
 unfold wantedT
 cases hg:q.o.guard with
 | none=>rfl
 | some g =>
  obtain ⟨j,want⟩:=g;simp only
  cases hd:(os[j]?).bind (·.dst) with
  | none=>rfl
  | some d =>
   simp only
   rw[p.look e hD (t:=d) (List.mem_append_right _ (by simp [hg,hd]))]
theorem Plan.nextT {D D':Nat→Bool}{pre post:List Rec}{q:Rec}(p:Plan P self os clo recs T0 h0 T1 h1) (e:recs=pre++q::post) (hD:D q.i=false) (h1':D' q.i=true) (h2:∀j,j≠q.i→D' j=D j):TD D' recs T0=put (TD D recs T0) q.o.dst q.v:=by
 obtain ⟨o1,o2,o3⟩:=p.other e
 have hpair:∀r∈post,∀t,q.o.dst=some t→r.o.dst≠some t:=fun r hr t ht=>by
  have hp:=p.pair q (by rw[e];simp) r (by rw[e];simp [hr])
  simp only[pairOk,ht,Bool.or_eq_true,beq_iff_eq,Bool.and_eq_true]at hp
  rcases hp with hp | hp
  ·exact absurd hp (o2 r hr)
  ·simpa using hp.1.1
 rw[e,TD_append,TD_append,TD_cons,TD_cons,hD,h1',TD_congr (D:=D') (D':=D) T0 fun r hr=>h2 _ (o1 r hr),TD_congr (D:=D') (D':=D) _ fun r hr=>h2 _ (Ne.symm (o2 r hr))]
 simp only[if_true,Bool.false_eq_true,if_false];exact TD_put hpair
theorem Plan.nextQuiet {D D':Nat→Bool}{q:Rec}(p:Plan P self os clo recs T0 h0 T1 h1) (hq:q∈recs) (hl:q.loud=false) (h2:∀j,j≠q.i→D' j=D j):HD D' recs h0=HD D recs h0:=by
 obtain ⟨pre,post,e⟩:=List.append_of_mem hq;obtain ⟨o1,o2,o3⟩:=p.other e
 refine HD_congr _ fun r hr rl=>h2 _ fun he=>?_
 rw[e]at hr
 rcases List.mem_append.1 hr with hr | hr
 ·exact o1 r hr he
 ·rcases List.mem_cons.1 hr with rfl | hr
  ·rw[hl]at rl;cases rl
  ·exact o2 r hr he.symm
theorem Plan.loudComp {q r:Rec}(p:Plan P self os clo recs T0 h0 T1 h1) (hq:q∈recs) (hr:r∈recs) (hlq:q.loud=true) (hlr:r.loud=true):r.i=q.i∨cl clo q.i r.i=true∨cl clo r.i q.i=true:=by
 have hp:=p.pair r hr q hq;simp only[pairOk,hlq,hlr,Bool.or_eq_true,beq_iff_eq,Bool.and_eq_true]at hp
 rcases hp with hp | hp
 ·exact .inl hp
 ·refine .inr ?_
  have:=hp.2
  simp at this
  exact (not_unord (by simpa using this)).symm
theorem Plan.atLoud {D:Nat→Bool}{pre post:List Rec}{q:Rec}(p:Plan P self os clo recs T0 h0 T1 h1) (e:recs=pre++q::post) (hD:Good clo D q.i) (hl:q.loud=true):HD D recs h0=q.hb:=by
 have hq:q∈recs:=by rw[e];simp
 rw[← p.atH e]
 refine HD_congr _ fun r hr rl=>?_
 rcases p.loudComp hq hr hl rl with h | h
 ·rw[h,hD.2.1,(p.good e).2.1]
 ·exact hD.agree (p.good e) h
theorem Plan.nextLoud {D D':Nat→Bool}{pre post:List Rec}{q:Rec}(p:Plan P self os clo recs T0 h0 T1 h1) (e:recs=pre++q::post) (hD:Good clo D q.i) (hl:q.loud=true) (h1':D' q.i=true) (h2:∀j,j≠q.i→D' j=D j):HD D' recs h0=q.ha:=by
 have hq:q∈recs:=by rw[e];simp
 obtain ⟨o1,o2,o3⟩:=p.other e;have hpw:=p.pw;rw[e,List.pairwise_append,List.pairwise_cons]at hpw
 have hpost:∀r∈post,r.loud=true→D' r.i=false:=fun r hr rl=>by
  rw[h2 _ (Ne.symm (o2 r hr))]
  rcases p.loudComp hq (by rw[e];simp [hr]) hl rl with h | h | h
  ·exact absurd h.symm (o2 r hr)
  ·rw[(hpw.2.1.1 r hr).2]at h;cases h
  ·cases hc:D r.i with
   | false=>rfl
   | true=>have:=hD.1 _ _ hc h;rw[hD.2.1]at this;cases this
 rw[e,HD_append,HD_cons,h1',hl];exact HD_none _ hpost
theorem Plan.read {D:Nat→Bool}{pre post:List Rec}{q:Rec}(p:Plan P self os clo recs T0 h0 T1 h1) (e:recs=pre++q::post) (hD:Good clo D q.i) (hl:q.loud=false) (hw:wantedT os q.T q.o=true) (ha:aread P (evalT q.T) q.hb.bl q.o=some q.v):aread P (evalT q.T) (HD D recs h0).bl q.o=some q.v:=by
 cases hm:memOp q.o.op with
 | false=>rw[aread_heap hm _ q.hb.bl];exact ha
 | true =>
  have hq:q∈recs:=by rw[e];simp
  have hg:=p.good e
  have hpw:recs.Pairwise (fun a b=>a.loud=true→b.loud=true→(D b.i=true→D a.i=true)∧(before pre b.i=true→before pre a.i=true)):=by
   refine List.Pairwise.imp_of_mem ?_ p.pw
   intro a b ha hb hab al bl
   have hc:cl clo b.i a.i=true:=by
    rcases p.loudComp ha hb al bl with h | h | h
    ·exact absurd h.symm hab.1
    ·rw[hab.2]at h;cases h
    ·exact h
   exact ⟨fun h=>hD.1 _ _ h hc,fun h=>hg.1 _ _ h hc⟩
  rcases HD_two (D:=D) (D':=before pre) p.tr hpw with h | ⟨r,hr,rl,hne,hh⟩
  ·rw[h,p.atH e];exact ha
  ·have hp:=p.pair r hr q hq
   simp only[pairOk,Bool.or_eq_true,beq_iff_eq,Bool.and_eq_true]at hp
   rcases hp with hp | hp
   ·exact absurd (by rw[hp,hD.2.1,hg.2.1]) hne
   ·have hu:unord clo r.i q.i=true:=by
     cases hu:unord clo r.i q.i with
     | true=>rfl
     | false=>exact absurd (hD.agree hg (not_unord (by rw[hu];rfl)).symm) hne
    have h2:=hp.2;simp only[rl,hl,hm,hu,hw]at h2
    simp at h2
    rcases hh with hh | hh
    ·rw[hh];exact same_eq h2.2
    ·rw[hh];exact same_eq h2.1
end
section
variable {P:Program}{self:Self}{os:Array Oper}{clo:List Nat}{recs:List Rec}{T0 T1:List Value}{h0 h1:Hp}
def Shut (clo:List Nat)(D:Nat→Bool):Prop:=∀j k,D j=true→cl clo j k=true→D k=true
theorem Plan.ready {listed:Array Bool}{i:Nat}(p:Plan P self os clo recs T0 h0 T1 h1) (hs:Shut clo fun j=>listed.getD j false) (hz:listed.size=os.size) (hi:i∈Region.ready .any os listed) :
  i<os.size∧Good clo (fun j=>listed.getD j false) i:=by
 rw[mem_ready]at hi;obtain ⟨hu,o,ho,hall⟩:=hi
 have hlt:i<os.size:=(Array.getElem?_eq_some_iff.1 ho).1
 refine ⟨hlt,hs,?_,?_⟩
 ·have:i<listed.size:=by omega
  simp only[Array.getD_eq_getD_getElem?,Array.getElem?_eq_getElem this,Option.getD_some]at hu ⊢
  exact hu
 ·intro k hk
  obtain ⟨d,hd,h⟩:=(p.clos i hlt k).1 hk;rw[ho]at hd;simp only[Option.map_some,Option.getD_some,depsOf,List.mem_map,List.mem_filter,Array.mem_toList_iff]at hd;obtain ⟨e,⟨he,hb⟩,rfl⟩:=hd;have hl:=hall e he hb
  rcases h with rfl | h
  ·exact hl
  ·exact hs _ _ hl h
theorem Plan.done {listed:Array Bool}(p:Plan P self os clo recs T0 h0 T1 h1) (hz:listed.size=os.size) (hr:Region.ready .any os listed=[]):∀(pre post:List Rec),recs=pre++post→∀r∈pre,listed.getD r.i false=true:=by
 intro pre
 induction hn:pre.length generalizing pre with
 | zero=>intro post e r hr;rw[List.length_eq_zero_iff]at hn;subst hn;cases hr
 | succ n ih =>
  intro post e r hrm
  rcases List.eq_nil_or_concat pre with rfl | ⟨pre',q,rfl⟩
  ·cases hrm
  rw[List.concat_eq_append]at *;simp only[List.length_append,List.length_cons,List.length_nil,Nat.zero_add,Nat.add_right_cancel_iff]at hn
  have e':recs=pre'++q::post:=by rw[e];simp
  have hpre:=ih pre' hn (q::post) e'
  rcases List.mem_append.1 hrm with hrm | hrm
  ·exact hpre r hrm
  ·simp only[List.mem_cons,List.not_mem_nil,or_false]at hrm
   subst hrm
   cases hl:listed.getD r.i false with
   | true=>rfl
   | false =>
    have hm:r∈recs:=by rw[e'];simp
    have hlt:=p.lt r hm
    have:r.i∈Region.ready .any os listed:=by
     rw[mem_ready]
     refine ⟨?_,r.o,(p.tr.recs r hm).1,?_⟩
     ·have:r.i<listed.size:=by omega
      simp only[Array.getD_eq_getD_getElem?,Array.getElem?_eq_getElem this,Option.getD_some]at hl ⊢
      exact hl
     ·intro ed hed hb
      obtain ⟨s,hs,he⟩:=p.pre pre' r post e' ed.on ((p.clos r.i hlt ed.on).2 ⟨ed.on,by
       rw[(p.tr.recs r hm).1];simp only[Option.map_some,Option.getD_some,depsOf,List.mem_map,List.mem_filter,Array.mem_toList_iff]
       exact ⟨ed,⟨hed,hb⟩,rfl⟩,.inl rfl⟩)
      rw[← he];exact hpre s hs
    rw[hr]at this;cases this
theorem Plan.run (hN:NoNG P)(hs:SelfOk P self)(p:Plan P self os clo recs T0 h0 T1 h1)(hb:h0.base≤h0.bl.length) {rd:Option Nat}{d:List Deferred}{K:Nat→Prop}{w0:World}{F:Fence}{n:Nat}{Q:Exit→Act→World→Prop} :
  ∀(fuel:Nat) (listed:Array Bool) (U:List Nat) (φ:Phi) (a:Act) (w:World),listed.size=os.size→Shut clo (fun j=>listed.getD j false) →
   (∀i,i<os.size→listed.getD i false=false→i∈U)→U.length≤fuel →
   Inv K w0 φ (HD (fun j=>listed.getD j false) recs h0).bl w→VRs φ (TD (fun j=>listed.getD j false) recs T0).toArray a.tmps→DRs φ d a.defers→FenceOk φ rd F →
   (∀x a w',CodeR K w0 φ .normal ⟨T1,d,h1⟩ x a w'→Q x a w')→wpAnyIn F n P .any os Q fuel listed a w:=by
 intro fuel
 have fin:∀(listed:Array Bool) (φ:Phi) (a:Act) (w:World),listed.size=os.size →
   Inv K w0 φ (HD (fun j=>listed.getD j false) recs h0).bl w→VRs φ (TD (fun j=>listed.getD j false) recs T0).toArray a.tmps→DRs φ d a.defers →
   (∀x a w',CodeR K w0 φ .normal ⟨T1,d,h1⟩ x a w'→Q x a w')→Region.ready .any os listed=[]→Q .normal a w:=by
  intro listed φ a w hz hI ht hd hQ hr
  have hall:=p.done hz hr recs [] (by simp)
  obtain ⟨l1,l2⟩:=p.tr.last
  rw[TD_congr (D':=fun _=>true) T0 hall,← l1]at ht
  rw[HD_congr (D':=fun _=>true) h0 fun r hr _=>hall r hr,← l2]at hI
  exact hQ _ _ _ ⟨φ,le_refl φ,.normal,ht,hd,hI⟩
 induction fuel with
 | zero =>
  intro listed U φ a w hz hsh hU hf hI ht hd hF hQ
  have hn:Region.ready .any os listed=[]:=by
   rw[List.eq_nil_iff_forall_not_mem];intro i hi;obtain ⟨hlt,_,hg,_⟩:=p.ready hsh hz hi;have:=hU i hlt hg;rw[List.length_eq_zero_iff.1 (Nat.le_zero.1 hf)]at this
   cases this
  exact ⟨hn,fin listed φ a w hz hI ht hd hQ hn⟩
 | succ fuel ih =>
  intro listed U φ a w hz hsh hU hf hI ht hd hF hQ
  refine ⟨fin listed φ a w hz hI ht hd hQ,?_⟩
  intro i hi;obtain ⟨hlt,hg⟩:=p.ready hsh hz hi;obtain ⟨q,hq,rfl⟩:=p.all i hlt;obtain ⟨pre,post,e⟩:=List.append_of_mem hq;obtain ⟨ho,hrec⟩:=p.tr.recs q hq
  have hlt':q.i<listed.size:=by omega
  have d1:(listed.setIfInBounds q.i true).getD q.i false=true:=by simp [hlt']
  have d2:∀j,j≠q.i→(listed.setIfInBounds q.i true).getD j false=listed.getD j false:=fun j hj=>getD_set_ne false (Ne.symm hj)
  have nT:=p.nextT (D:=fun j=>listed.getD j false) (D':=fun j=>(listed.setIfInBounds q.i true).getD j false) e hg.2.1 d1 d2
  have hsh':Shut clo fun j=>(listed.setIfInBounds q.i true).getD j false:=by
   intro j k hj hk
   by_cases hjq:j=q.i
   ·subst hjq
    exact getD_set_true (hg.2.2 k hk)
   ·simp only[d2 j hjq]at hj
    exact getD_set_true (hsh j k hj hk)
  have goOn:∀(φ':Phi) (a':Act) (w':World),le φ φ'→Inv K w0 φ' (HD (fun j=>(listed.setIfInBounds q.i true).getD j false) recs h0).bl w' →
    VRs φ' (put (TD (fun j=>listed.getD j false) recs T0) q.o.dst q.v).toArray a'.tmps→DRs φ' d a'.defers →
    wpAnyIn F n P .any os Q fuel (listed.setIfInBounds q.i true) a' w':=by
   intro φ' a' w' hle hI' ht' hd';rw[← nT]at ht'
   refine ih _ (U.erase q.i) φ' a' w' (by simp [hz]) hsh' ?_ ?_ hI' ht' hd' (hF.mono hle) (fun x a w'' hc=>hQ x a w'' (hc.mono hle))
   ·intro j hj hl
    have hne:j≠q.i:=fun he=>by rw[he,d1]at hl;cases hl
    rw[d2 j hne]at hl;exact (List.mem_erase_of_ne hne).2 (hU j hj hl)
   ·have:=List.length_erase_of_mem (hU q.i hlt hg.2.1)
    omega
  have hwe:=p.wanted e hg;simp only[wpOpIn,ho];rw[wanted_eq ht,hwe]
  rcases hrec with ⟨r1,r2,r3,r4⟩ | ⟨r1,r2,r3,r4⟩ | ⟨r1,r2,r3,r4⟩
  ·rw[if_neg (by rw[r1];simp)]
   refine ⟨fun f _=>hF.fn f,?_⟩
   refine goOn φ _ w (le_refl φ) ?_ ?_ ?_
   ·rw[p.nextQuiet hq r4 d2];exact hI
   ·rw[r2];exact vrs_put ht (VR.undef φ) _
   ·rw[put_defers];exact hd
  ·rw[if_pos r1]
   refine ⟨fun f _=>hF.fn f,?_⟩
   have ha:=p.read e hg r4 r1 r2;rw[← aread_congr (p.eval e hg)]at ha
   have hnd:∀c,q.o.op≠.defer c:=fun c hc=>by
    unfold aread at ha;rw[hc]at ha
    simp at ha
   obtain ⟨v',hr,hv⟩:=aread_sound hI (evs_t ht) ha;rw[sem_plain (.inl hnd),hr]
   refine goOn φ _ w (le_refl φ) ?_ (vrs_put ht hv _) ?_
   ·rw[p.nextQuiet hq r4 d2];exact hI
   ·rw[put_defers];exact hd
  ·rw[if_pos r1]
   refine ⟨fun f _=>hF.fn f,?_⟩
   have hH:=p.atLoud e hg r4
   have hH':=p.nextLoud (D':=fun j=>(listed.setIfInBounds q.i true).getD j false) e hg r4 d1 d2
   rw[hH]at hI;rw[hH']at goOn;have hqb:q.hb.base≤q.hb.bl.length:=(p.tr.pres hs hb).2 q hq;rw[← aread_congr (p.eval e hg)]at r2;rw[← dloud_congr (p.eval e hg)]at r3
   have hop:∀nx,aloud P (evalT (TD (fun j=>listed.getD j false) recs T0)) q.hb q.o=some nx→aop P (evalT (TD (fun j=>listed.getD j false) recs T0)) q.hb q.o=some nx:=fun nx hh=>by unfold aop;rw[r2];exact hh
   rcases dloud_nx r3 with h | ⟨f,args,h,hc⟩ | ⟨l,args,h,hc⟩
   ·have ha:=hop _ h
    have hnd:∀c,q.o.op≠.defer c:=fun c hc=>by obtain ⟨d,hd⟩:=aop_defer hc ha;cases hd
    obtain ⟨_,φ',v',w',hr,hle,hv,hI'⟩:=aop_sound hN hqb hI (evs_t ht) ha;rw[sem_plain (.inl hnd)]
    have hrest:=goOn φ' (a.put q.o.dst v') w' hle hI' (vrs_put (ht.mono hle) hv _) (by rw[put_defers];exact hd.mono hle)
    rcases hr with hr | ⟨hr,rfl⟩
    ·rw[hr];exact hrest
    ·rw[hr];exact hrest
   ·have ha:=hop _ h
    have hnd:∀c,q.o.op≠.defer c:=fun c hc=>by obtain ⟨d,hd⟩:=aop_defer hc ha;cases hd
    obtain ⟨_,args',hr,hargs⟩:=aop_sound hN hqb hI (evs_t ht) ha;obtain ⟨hp1,hcc⟩:=hs _ _ hc hqb;rw[sem_plain (.inl hnd),hr]
    refine ⟨hF.depth n,(hF.calls (hcc K w0 φ w args' (n-1) hI hargs)).mono ?_⟩
    intro en w' hen
    cases en with
    | returned v' =>
     obtain ⟨φ',hle,hv,hI'⟩:=hen
     exact goOn φ' (a.put q.o.dst v') w' hle hI' (vrs_put (ht.mono hle) hv _) (by rw[put_defers];exact hd.mono hle)
    | panicked ch=>exact hen.elim
    | outgrown=>exact hen.elim
   ·have ha:=hop _ h
    have hnd:∀c,q.o.op≠.defer c:=fun c hc=>by obtain ⟨d,hd⟩:=aop_defer hc ha;cases hd
    obtain ⟨B,tb,args',hφ,hr,hargs⟩:=aop_sound hN hqb hI (evs_t ht) ha;obtain ⟨hp1,hcc⟩:=hs _ _ hc hqb;obtain ⟨fn,tm,as,bd,hy,hround⟩:=hcc K w0 φ w args' B tb (n-1) hI hargs hφ;rw[sem_plain (.inl hnd),hr,hy]
    refine ⟨hF.depth n,(hF.round hround).mono ?_⟩
    intro en w' hen
    cases en with
    | returned v' =>
     obtain ⟨φ',hle,hv,hI'⟩:=hen
     exact goOn φ' (a.put q.o.dst v') w' hle hI' (vrs_put (ht.mono hle) hv _) (by rw[put_defers];exact hd.mono hle)
    | panicked ch=>exact hen.elim
    | outgrown=>exact hen.elim
end
theorem drawn_ok {P:Program}(hN:NoNG P) (hm:P.follows .mixedOrders=true):DrawnOk P drawn:=by
 intro self hs rd id os s o h;unfold drawn at h
 split at h
 case isFalse=>cases h
 rename_i hp
 split at h
 case h_2=>cases h
 rename_i recs T h1 hr
 split at h
 case isFalse=>cases h
 rename_i hc;simp only[Option.some.injEq]at h;subst h;have p:=plan_of hp hr hc;intro hb
 refine ⟨(p.tr.pres hs hb).1,?_⟩
 intro K w0 φ w a F n hI ht hd hF
 refine wpIn_region_any hm ?_
 have h0:∀j,(Array.replicate os.size false).getD j false=false:=fun j=>by
  simp only[Array.getD_eq_getD_getElem?,Array.getElem?_replicate]
  split<;>rfl
 refine p.run hN hs hb os.size _ (List.range os.size) φ a _ (by simp) ?_ ?_ (by simp) ?_ ?_ hd hF (fun x a w' hc=>hc)
 ·intro j k hj;simp only[h0]at hj;cases hj
 ·intro i hi _;exact List.mem_range.2 hi
 ·rw[HD_none _ fun r _ _=>h0 r.i];exact hI.drew
 ·rw[TD_none _ fun r _=>h0 r.i];exact ht
def getInt (c:Array Value)(i:Nat):Int:=match lget c.toList i with | .int _ n=>n | _=>0
def getBool (c:Array Value)(i:Nat):Bool:=match lget c.toList i with | .bool b=>b | _=>false
def strEq (a b:ByteArray):Bool:=a.toList == b.toList
def getStr (c:Array Value)(i:Nat):ByteArray:=match lget c.toList i with | .string s=>s | _=>ByteArray.empty
def isInt (q:IntKind)(c:Array Value)(i:Nat):Bool:=match lget c.toList i with | .int q' _=>decide (q'=q) | _=>false
def isBool (c:Array Value)(i:Nat):Bool:=match lget c.toList i with | .bool _=>true | _=>false
def isStr (c:Array Value)(i:Nat):Bool:=match lget c.toList i with | .string _=>true | _=>false
def isLst (c:Array Value)(i:Nat):Bool:=match lget c.toList i with | .func (.via 0 ⟨[]⟩ 0 true) _ ⟨[.slice (some ⟨0,_,none⟩) _ _]⟩=>true | _=>false
def getArr (c:Array Value)(i:Nat):Array Value:=match lget c.toList i with | .func (.via 0 ⟨[]⟩ 0 true) a _=>a | _=>#[]
def getOff (c:Array Value)(i:Nat):Nat:=match lget c.toList i with | .func (.via 0 ⟨[]⟩ 0 true) _ ⟨[.slice (some ⟨_,o,none⟩) _ _]⟩=>o | _=>0
def getLen (c:Array Value)(i:Nat):Nat:=match lget c.toList i with | .func (.via 0 ⟨[]⟩ 0 true) _ ⟨[.slice _ n _]⟩=>n | _=>0
def isLsz (z:Nat)(c:Array Value)(i:Nat):Bool:=match lget c.toList i with | .func (.via 0 ⟨[]⟩ 0 true) _ ⟨[.slice (some ⟨0,_,none⟩) _ y]⟩=>Nat.beq y z | _=>false
def inArr (c:Array Value)(i:Nat):Bool:=Nat.blt i c.toList.length
theorem lget_some {c:Array Value}{i:Nat}{v:Value}(h:lget c.toList i=v) (hn:v≠undef):c[i]?=some v:=by
 rw[lget_eq,Array.toArray_toList,Array.getD_eq_getD_getElem?]at h
 cases hc:c[i]? with
 | none=>rw[hc]at h;exact absurd h.symm hn
 | some u=>rw[hc]at h;simp at h;rw[h]
theorem isInt_ok {q:IntKind}{c:Array Value}{i:Nat}(h:isInt q c i=true):c[i]?=some (.int q (getInt c i)):=by
 unfold isInt at h
 split at h
 ·rename_i q' n hl
  have:=of_decide_eq_true h;subst this
  rw[lget_some hl (by intro h;cases h)]
  simp [getInt,hl]
 ·cases h
theorem isBool_ok {c:Array Value}{i:Nat}(h:isBool c i=true):c[i]?=some (.bool (getBool c i)):=by
 unfold isBool at h
 split at h
 ·rename_i b hl
  rw[lget_some hl (by intro h;cases h)]
  simp [getBool,hl]
 ·cases h
theorem isStr_ok {c:Array Value}{i:Nat}(h:isStr c i=true):c[i]?=some (.string (getStr c i)):=by
 unfold isStr at h
 split at h
 ·rename_i b hl
  rw[lget_some hl (by intro h;cases h)]
  simp [getStr,hl]
 ·cases h
theorem isLsz_ok {z:Nat}{c:Array Value}{i:Nat}(h:isLsz z c i=true):c[i]?=some (.func (.via 0 ⟨[]⟩ 0 true) (getArr c i) ⟨[.slice (some ⟨0,getOff c i,none⟩) (getLen c i) z]⟩):=by
 unfold isLsz at h
 split at h
 ·rename_i a o n y hl
  have hy:=Nat.eq_of_beq_eq_true h;subst hy
  rw[lget_some hl (by intro h;cases h)]
  simp [getArr,getOff,getLen,hl]
 ·cases h
theorem inArr_ok {c:Array Value}{i:Nat}(h:inArr c i=true):c[i]?=some (lget c.toList i):=by
 unfold inArr at h;rw[Nat.blt_eq]at h
 have hlt:i<c.size:=by simpa using h
 rw[lget_eq,Array.toArray_toList,Array.getD_eq_getD_getElem?,Array.getElem?_eq_getElem hlt]
 rfl
inductive Leaf where
 | int (q:IntKind)
 | bool
 | str
 | lst (z:Nat)
 | any
def leafOf (P:Program)(fz:Bool)(t:TypeId):Leaf :=
 match P.underlying t with
 | some (.int q)=>.int q
 | some .bool=>.bool
 | some .string=>.str
 | some (.slice e)=>cond fz (.lst (P.cellsOf e)) .any
 | _=>.any
def leaves (P:Program)(fz:Bool):Nat→TypeId→List Leaf
 | 0,_=>[]
 | d+1,t =>
  match P.underlying t with
  | some (.struct fs)=>fs.toList.flatMap fun f=>leaves P fz d f.type
  | some (.array n e)=>(List.range n).flatMap fun _=>leaves P fz d e
  | _=>[leafOf P fz t]
def rdLeaf (c:Array Value):Leaf→Nat→Bool×Value
 | .int q,i=>(isInt q c i,.int q (getInt c i))
 | .bool,i=>(isBool c i,.bool (getBool c i))
 | .str,i=>(isStr c i,.string (getStr c i))
 | .lst z,i=>(isLsz z c i,.func (.via 0 ⟨[]⟩ 0 true) (getArr c i) ⟨[.slice (some ⟨0,getOff c i,none⟩) (getLen c i) z]⟩)
 | .any,i=>(inArr c i,lget c.toList i)
theorem rdLeaf_ok {c:Array Value}{l:Leaf}{i:Nat}(h:(rdLeaf c l i).1=true):c[i]?=some (rdLeaf c l i).2:=by
 cases l with
 | int q=>exact isInt_ok h
 | bool=>exact isBool_ok h
 | str=>exact isStr_ok h
 | lst=>exact isLsz_ok h
 | any=>exact inArr_ok h
def rdOk (c:Array Value):List Leaf→Nat→Bool
 | [],_=>true
 | l::r,i=>(rdLeaf c l i).1&&rdOk c r (i+1)
def rdVals (c:Array Value):List Leaf→Nat→List Value
 | [],_=>[]
 | l::r,i=>(rdLeaf c l i).2::rdVals c r (i+1)
theorem rdVals_length (c:Array Value):∀(l:List Leaf) (i:Nat),(rdVals c l i).length=l.length
 | [],_=>rfl
 | _::r,i=>by simp [rdVals,rdVals_length c r]
theorem rdVals_get {c:Array Value}:∀{l:List Leaf}{i:Nat},rdOk c l i=true→∀j,j<l.length→(rdVals c l i)[j]?=c[i+j]?
 | [],_,_,j,hj=>absurd hj (Nat.not_lt_zero _)
 | l::r,i,h,j,hj=>by
  simp only[rdOk,Bool.and_eq_true]at h
  cases j with
  | zero=>simp only[rdVals,List.getElem?_cons_zero];rw[Nat.add_zero,rdLeaf_ok h.1]
  | succ j =>
   simp only[rdVals,List.getElem?_cons_succ]
   rw[rdVals_get h.2 j (by simpa using hj)]
   congr 1;omega
theorem rdVals_le {c:Array Value}{l:List Leaf}{i:Nat}(h:rdOk c l i=true) (hn:l≠[]):i+l.length≤c.size:=by
 have hpos:0<l.length:=List.length_pos_iff.2 hn
 have:=rdVals_get h (l.length-1) (by omega)
 rw[List.getElem?_eq_getElem (by rw[rdVals_length];omega)]at this
 have:=(Array.getElem?_eq_some_iff.1 this.symm).1
 omega
theorem rdVals_ok {c:Array Value}{l:List Leaf}{i:Nat}(h:rdOk c l i=true) (hle:i+l.length≤c.size):c.extract i (i+l.length)=⟨rdVals c l i⟩:=by
 apply Array.ext_getElem?
 intro j
 rw[Array.getElem?_extract]
 by_cases hj:j<l.length
 ·rw[if_pos (by omega)]
  simp only[List.getElem?_toArray]
  exact (rdVals_get h j hj).symm
 ·rw[if_neg (by omega)]
  simp only[List.getElem?_toArray]
  rw[List.getElem?_eq_none (by rw[rdVals_length];omega)]
def nthO (l:List Ob):Nat→Option Ob:=List.rec (motive:=fun _=>Nat→Option Ob) (fun _=>none) (fun v _ ih n=>Nat.rec (motive:=fun _=>Option Ob) (some v) (fun m _=>ih m) n) l
theorem nthO_eq:∀(l:List Ob) (n:Nat),nthO l n=l[n]?
 | [],n=>by show none=_;simp
 | v::r,0=>by show some v=_;simp
 | v::r,n+1=>by show nthO r n=_;rw[nthO_eq r n];simp
def isCells (H:List Ob)(b:Nat):Bool:=match nthO H b with | some (.cells _ _)=>true | _=>false
def cellsAt (H:List Ob)(b:Nat):Array Value:=match nthO H b with | some (.cells c _)=>c | _=>#[]
theorem cells_ok {H:List Ob}{b:Nat}(h:isCells H b=true):∃ro,H[b]?=some (.cells (cellsAt H b) ro):=by
 unfold isCells at h;unfold cellsAt;rw[← nthO_eq]
 split at h
 ·rename_i c ro hc;rw[hc];exact ⟨ro,rfl⟩
 ·cases h
def symCells (P:Program)(fz:Bool)(c:Array Value)(t:TypeId)(off:Nat):Option (Bool×Value) :=
 match isAggB P t with
 | some true =>
  match sizeB P t with
  | some n=>if (leaves P fz 20 t).length=n∧n≠0 then some (rdOk c (leaves P fz 20 t) off,.agg ⟨rdVals c (leaves P fz 20 t) off⟩) else none
  | none=>none
 | some false=>some ((rdLeaf c (leafOf P fz t) off).1,(rdLeaf c (leafOf P fz t) off).2)
 | none=>none
theorem symCells_ok {P:Program}{fz:Bool}{c:Array Value}{t:TypeId}{off:Nat}{v:Value}{b:Bool}(h:symCells P fz c t off=some (b,v)) (hb:b=true):rCells P t c off=some v:=by
 unfold symCells at h
 split at h
 ·rename_i ha
  split at h
  ·rename_i n hn
   split at h
   ·rename_i hl
    simp only[Option.some.injEq,Prod.mk.injEq]at h;obtain ⟨rfl,rfl⟩:=h;simp only[rCells,ha,hn]
    have hle:=rdVals_le hb (by intro e;rw[e]at hl;exact hl.2 hl.1.symm)
    rw[hl.1]at hle;rw[if_pos hle]
    congr 2
    rw[← hl.1]
    exact rdVals_ok hb (by rw[hl.1];exact hle)
   ·cases h
  ·cases h
 ·rename_i ha
  simp only[Option.some.injEq,Prod.mk.injEq]at h;obtain ⟨h1,rfl⟩:=h;rw[← h1]at hb;simp only[rCells,ha];exact rdLeaf_ok hb
 ·cases h
def symLoad (P:Program)(H:List Ob)(t:TypeId)(x:Value):Option (Bool×Value) :=
 match x with
 | .pointer (some ⟨b,off,none⟩)=>(symCells P false (cellsAt H b) t off).map fun r=>(isCells H b&&r.1,r.2)
 | .func (.via 0 ⟨[]⟩ 0 false) c ⟨[.pointer (some ⟨_,off,none⟩)]⟩=>symCells P true c t off
 | _=>none
theorem symLoad_ok {P:Program}{H:List Ob}{t:TypeId}{x v:Value}{b:Bool}(h:symLoad P H t x=some (b,v)) (hb:b=true):rLoad P H t x=some v:=by
 unfold symLoad at h
 split at h
 ·rename_i bk off
  rw[Option.map_eq_some_iff]at h;obtain ⟨⟨b1,v1⟩,h1,h2⟩:=h;simp only[Prod.mk.injEq]at h2;obtain ⟨rfl,rfl⟩:=h2;rw[Bool.and_eq_true]at hb;obtain ⟨ro,hc⟩:=cells_ok hb.1;simp only[rLoad,hc];exact symCells_ok h1 hb.2
 ·exact symCells_ok h hb
 ·cases h
def xorI (k:IntKind)(a b:Int):Int:=k.wrap ((BitVec.ofInt k.bits a ^^^ BitVec.ofInt k.bits b).toNat:Int)
def andI (k:IntKind)(a b:Int):Int:=k.wrap ((BitVec.ofInt k.bits a &&& BitVec.ofInt k.bits b).toNat:Int)
def orI (k:IntKind)(a b:Int):Int:=k.wrap ((BitVec.ofInt k.bits a|||BitVec.ofInt k.bits b).toNat:Int)
def andnI (k:IntKind)(a b:Int):Int:=k.wrap ((BitVec.ofInt k.bits a &&& ~~~BitVec.ofInt k.bits b).toNat:Int)
def symInt (op:BinOp)(k:IntKind)(a b:Int):Option (Bool×Value) :=
 match op with
 | .add=>some (true,.int k (k.wrap (a+b)))
 | .sub=>some (true,.int k (k.wrap (a-b)))
 | .mul=>some (true,.int k (k.wrap (a*b)))
 | .eql=>some (true,.bool (decide (a=b)))
 | .neq=>some (true,.bool (!decide (a=b)))
 | .lss=>some (true,.bool (decide (a<b)))
 | .leq=>some (true,.bool (decide (a≤b)))
 | .gtr=>some (true,.bool (decide (b<a)))
 | .geq=>some (true,.bool (decide (b≤a)))
 | .quo=>some (!decide (b=0),.int k (k.wrap (a.tdiv b)))
 | .rem=>some (!decide (b=0),.int k (a.tmod b))
 | .shl=>some (decide (0≤b),.int k (k.wrap (a*2 ^ (min b.toNat k.bits))))
 | .shr=>some (decide (0≤b),.int k (a.fdiv (2 ^ (min b.toNat k.bits))))
 | .xor=>some (true,.int k (xorI k a b))
 | .and=>some (true,.int k (andI k a b))
 | .or=>some (true,.int k (orI k a b))
 | .andNot=>some (true,.int k (andnI k a b))
theorem intEq (a b:Int):(a == b)=decide (a=b):=by
 rw[Bool.eq_iff_iff];simp
theorem intNe (a b:Int):(a != b)=!decide (a=b):=by
 rw[bne,intEq]
theorem pureVal_of {P:Program}{s:Sem Next}{v:Value}(h:pureRun P s=some (.value v)) (hg:gr v=true):pureVal P s=some v:=by
 unfold pureVal;rw[h];simp only;rw[if_pos hg]
theorem pure_val {P:Program}{s:Sem Value}{v:Value}(h:pureRun P s=some v):pureRun P (do pure (.value (← s)):Sem Next)=some (.value v):=by
 rw[pureRun_bind,h];rfl
theorem pure_bin {P:Program} {ρ:Operand→Value}{o:Oper}{op:BinOp}{t yt:TypeId}{x y:Operand}{v:Value}(ho:o.op=.binOp op t x y yt) (hg:pureRun P (eqGuard op t x y (ρ x) (ρ y))=some ())
  (hb:pureRun P (binOp op t (ρ x) (ρ y))=some v) (hv:gr v=true):pureVal P (execOp ρ o)=some v:=by
 refine pureVal_of ?_ hv
 simp only[execOp,ho]
 exact pure_val (by rw[pureRun_bind,hg];exact hb)
theorem guard_int {P:Program}(op:BinOp) (t:TypeId) (x y:Operand) (k k':IntKind) (a b:Int):pureRun P (eqGuard op t x y (.int k a) (.int k' b))=some ():=by
 unfold eqGuard;cases op<;>rfl
theorem guard_bool {P:Program}(op:BinOp) (t:TypeId) (x y:Operand) (a b:Bool):pureRun P (eqGuard op t x y (.bool a) (.bool b))=some ():=by
 unfold eqGuard;cases op<;>rfl
theorem guard_str {P:Program}(op:BinOp) (t:TypeId) (x y:Operand) (a b:ByteArray):pureRun P (eqGuard op t x y (.string a) (.string b))=some ():=by
 unfold eqGuard;cases op<;>rfl
def symBin (P:Program)(op:BinOp)(t:TypeId)(x y:Value):Option (Bool×Value) :=
 match x,y with
 | .int k a,.int k' b=>if k=k' then symInt op k a b else match op with
  | .shl=>some (decide (0≤b),.int k (k.wrap (a*2 ^ (min b.toNat k.bits))))
  | .shr=>some (decide (0≤b),.int k (a.fdiv (2 ^ (min b.toNat k.bits))))
  | _=>none
 | .bool a,.bool b=>match P.underlying t with
  | some .bool=>(match op with | .eql=>some (true,.bool (a == b)) | .neq=>some (true,.bool (!(a == b))) | _=>none)
  | _=>none
 | .string a,.string b=>match op with | .eql=>some (true,.bool (strEq a b)) | .neq=>some (true,.bool (!(strEq a b))) | _=>none
 | _,_=>none
theorem shift_shl {P:Program} {k k':IntKind}{a b:Int}(h:decide (0≤b)=true):pureRun P (Op.shift .shl k a k' b)=some (.int k (k.wrap (a*2 ^ (min b.toNat k.bits)))):=by
 have:=of_decide_eq_true h;unfold Op.shift
 rw[if_neg (by omega)]
 rfl
theorem shift_shr {P:Program} {k k':IntKind}{a b:Int}(h:decide (0≤b)=true):pureRun P (Op.shift .shr k a k' b)=some (.int k (a.fdiv (2 ^ (min b.toNat k.bits)))):=by
 have:=of_decide_eq_true h;unfold Op.shift
 rw[if_neg (by omega)]
 rfl
theorem symBin_ok {P:Program} {ρ:Operand→Value}{H:List Ob}{o:Oper}{op:BinOp}{t yt:TypeId}{x y:Operand}{b:Bool}{v:Value}(ho:o.op=.binOp op t x y yt) (hx:okO x=true) (hy:okO y=true)
  (h:symBin P op t (ρ x) (ρ y)=some (b,v)) (hb:b=true):aread P ρ H o=some v:=by
 have main:gr (ρ x)=true→gr (ρ y)=true→(fastBin op (ρ x) (ρ y)=some v∨fastBin op (ρ x) (ρ y)=none∧pureVal P (execOp ρ o)=some v)→aread P ρ H o=some v:=by
  intro g1 g2 h;simp only[aread,ho,hx,hy,g1,g2,Bool.and_self,if_true]
  rcases h with h | ⟨h1,h2⟩
  ·rw[h]
  ·rw[h1];exact h2
 have pb:=@pure_bin P ρ o op t yt x y v ho;unfold symBin at h
 split at h
 ·rename_i k a k' c hxa hyc
  rw[hxa,hyc]at main pb;have main:=main rfl rfl
  split at h
  ·rename_i hk
   subst hk;unfold symInt at h
   cases op<;>simp only[Option.some.injEq,Prod.mk.injEq]at h<;>first | (cases h;done) | skip
   case quo =>
    obtain ⟨h1,rfl⟩:=h;subst h1
    refine main (.inr ⟨by simp [fastBin],pb (guard_int _ _ _ _ _ _ _ _) ?_ rfl⟩)
    simp only[binOp,ne_eq,not_true_eq_false,if_false,Op.intDiv]
    rw[if_neg (by simpa using hb)];rfl
   case rem =>
    obtain ⟨h1,rfl⟩:=h;subst h1
    refine main (.inr ⟨by simp [fastBin],pb (guard_int _ _ _ _ _ _ _ _) ?_ rfl⟩)
    simp only[binOp,ne_eq,not_true_eq_false,if_false,Op.intDiv]
    rw[if_neg (by simpa using hb)];rfl
   case shl =>
    obtain ⟨h1,rfl⟩:=h;subst h1
    exact main (.inr ⟨by simp [fastBin],pb (guard_int _ _ _ _ _ _ _ _) (by simpa only [binOp] using shift_shl hb) rfl⟩)
   case shr =>
    obtain ⟨h1,rfl⟩:=h;subst h1
    exact main (.inr ⟨by simp [fastBin],pb (guard_int _ _ _ _ _ _ _ _) (by simpa only [binOp] using shift_shr hb) rfl⟩)
   case xor =>
    obtain ⟨h1,rfl⟩:=h
    exact main (.inr ⟨by simp [fastBin],pb (guard_int _ _ _ _ _ _ _ _) (by simp only[binOp,ne_eq,not_true_eq_false,if_false,Op.intBits];rfl) rfl⟩)
   case and =>
    obtain ⟨h1,rfl⟩:=h
    exact main (.inr ⟨by simp [fastBin],pb (guard_int _ _ _ _ _ _ _ _) (by simp only[binOp,ne_eq,not_true_eq_false,if_false,Op.intBits];rfl) rfl⟩)
   case or =>
    obtain ⟨h1,rfl⟩:=h
    exact main (.inr ⟨by simp [fastBin],pb (guard_int _ _ _ _ _ _ _ _) (by simp only[binOp,ne_eq,not_true_eq_false,if_false,Op.intBits];rfl) rfl⟩)
   case andNot =>
    obtain ⟨h1,rfl⟩:=h
    exact main (.inr ⟨by simp [fastBin],pb (guard_int _ _ _ _ _ _ _ _) (by simp only[binOp,ne_eq,not_true_eq_false,if_false,Op.intBits];rfl) rfl⟩)
   all_goals
    obtain ⟨h1,rfl⟩:=h
    refine main (.inl ?_)
    simp [fastBin,intEq,intNe]
  ·rename_i hk
   split at h
   ·simp only[Option.some.injEq,Prod.mk.injEq]at h
    obtain ⟨h1,rfl⟩:=h;subst h1
    exact main (.inr ⟨by simp [fastBin,hk],pb (guard_int _ _ _ _ _ _ _ _) (by simpa only [binOp] using shift_shl hb) rfl⟩)
   ·simp only[Option.some.injEq,Prod.mk.injEq]at h
    obtain ⟨h1,rfl⟩:=h;subst h1
    exact main (.inr ⟨by simp [fastBin,hk],pb (guard_int _ _ _ _ _ _ _ _) (by simpa only [binOp] using shift_shr hb) rfl⟩)
   ·cases h
 ·rename_i a c hxa hyc
  rw[hxa,hyc]at main pb;have main:=main rfl rfl
  split at h
  ·rename_i hu
   split at h
   ·simp only[Option.some.injEq,Prod.mk.injEq]at h
    obtain ⟨h1,rfl⟩:=h
    refine main (.inr ⟨by simp [fastBin],pb (guard_bool _ _ _ _ _ _) ?_ rfl⟩)
    simp only[binOp]
    rw[pureRun_bind,show pureRun P (Op.equal t (.bool a) (.bool c))=some (a == c) from equalIn_bool 9999 hu a c];rfl
   ·simp only[Option.some.injEq,Prod.mk.injEq]at h
    obtain ⟨h1,rfl⟩:=h
    refine main (.inr ⟨by simp [fastBin],pb (guard_bool _ _ _ _ _ _) ?_ rfl⟩)
    simp only[binOp]
    rw[pureRun_bind,show pureRun P (Op.equal t (.bool a) (.bool c))=some (a == c) from equalIn_bool 9999 hu a c];rfl
   ·cases h
  ·cases h
 ·rename_i a c hxa hyc
  rw[hxa,hyc]at main pb;have main:=main rfl rfl
  split at h
  ·simp only[Option.some.injEq,Prod.mk.injEq]at h
   obtain ⟨h1,rfl⟩:=h
   refine main (.inr ⟨by simp [fastBin],pb (guard_str _ _ _ _ _ _) ?_ rfl⟩)
   simp only[binOp,Op.stringOp];rfl
  ·simp only[Option.some.injEq,Prod.mk.injEq]at h
   obtain ⟨h1,rfl⟩:=h
   refine main (.inr ⟨by simp [fastBin],pb (guard_str _ _ _ _ _ _) ?_ rfl⟩)
   simp only[binOp,Op.stringOp];rfl
  ·cases h
 ·cases h
theorem pureRun_pure {P:Program} {α:Type}(a:α):pureRun P (pure a)=some a:=rfl
def symIx (P:Program)(t:TypeId)(x y:Value):Option (Bool×Value) :=
 match x,y with
 | .slice (some ⟨b,off,none⟩) len _,.int _ i =>
  match P.underlying t with
  | some (.slice e)=>match sizeB P e with
   | some n=>some (decide (0≤i)&&decide (i<len),.pointer (some ⟨b,off+i.toNat*n,none⟩))
   | none=>none
  | _=>none
 | .func (.via 0 ⟨[]⟩ 0 true) c ⟨[.slice (some ⟨b,off,none⟩) len _]⟩,.int _ i =>
  match P.underlying t with
  | some (.slice e)=>match sizeB P e with
   | some n=>some (decide (0≤i)&&decide (i<len),.func (.via 0 ⟨[]⟩ 0 false) c ⟨[.pointer (some ⟨b,off+i.toNat*n,none⟩)]⟩)
   | none=>none
  | _=>none
 | .func (.via 0 ⟨[]⟩ 0 false) c ⟨[.pointer (some ⟨b,off,none⟩)]⟩,.int _ i =>
  match P.underlying t with
  | some (.array len e)=>match sizeB P e with
   | some n=>some (decide (0≤i)&&decide (i<len),.func (.via 0 ⟨[]⟩ 0 false) c ⟨[.pointer (some ⟨b,off+i.toNat*n,none⟩)]⟩)
   | none=>none
  | _=>none
 | .pointer (some ⟨b,off,none⟩),.int _ i =>
  match P.underlying t with
  | some (.array len e)=>match sizeB P e with
   | some n=>some (decide (0≤i)&&decide (i<len),.pointer (some ⟨b,off+i.toNat*n,none⟩))
   | none=>none
  | _=>none
 | _,_=>none
theorem symIx_ok {P:Program}{t:TypeId}{x y v:Value}{b:Bool}(h:symIx P t x y=some (b,v)) (hb:b=true):rIndexAddr P t x y=some v:=by
 unfold symIx at h
 split at h
 ·split at h
  ·rename_i e hu
   split at h
   ·rename_i n hn
    simp only[Option.some.injEq,Prod.mk.injEq]at h;obtain ⟨h1,rfl⟩:=h;subst h1;simp only[Bool.and_eq_true,decide_eq_true_eq]at hb;simp only[rIndexAddr,hu,hn,hb,and_self,if_true]
   ·cases h
  ·cases h
 ·split at h
  ·rename_i e hu
   split at h
   ·rename_i n hn
    simp only[Option.some.injEq,Prod.mk.injEq]at h;obtain ⟨h1,rfl⟩:=h;subst h1;simp only[Bool.and_eq_true,decide_eq_true_eq]at hb;simp only[rIndexAddr,hu,hn,hb,and_self,if_true]
   ·cases h
  ·cases h
 ·split at h
  ·rename_i len e hu
   split at h
   ·rename_i n hn
    simp only[Option.some.injEq,Prod.mk.injEq]at h;obtain ⟨h1,rfl⟩:=h;subst h1;simp only[Bool.and_eq_true,decide_eq_true_eq]at hb;simp only[rIndexAddr,hu,hn,hb,and_self,if_true]
   ·cases h
  ·cases h
 ·split at h
  ·rename_i len e hu
   split at h
   ·rename_i n hn
    simp only[Option.some.injEq,Prod.mk.injEq]at h;obtain ⟨h1,rfl⟩:=h;subst h1;simp only[Bool.and_eq_true,decide_eq_true_eq]at hb;simp only[rIndexAddr,hu,hn,hb,and_self,if_true]
   ·cases h
  ·cases h
 ·cases h
def getByte (s:ByteArray)(i:Nat):Int:=match s[i]? with | some b=>(b.toNat:Int) | none=>0
def symIndex (P:Program)(t:TypeId)(x y:Value):Option (Bool×Value) :=
 match x,y with
 | .string s,.int _ i =>
  match P.underlying t with
  | some .string=>some (decide (0≤i)&&decide (i<s.size),.int .u8 (getByte s i.toNat))
  | _=>none
 | _,_=>none
theorem symIndex_ok {P:Program} {ρ:Operand→Value}{H:List Ob}{o:Oper}{t:TypeId}{x y:Operand}{b:Bool}{v:Value}(ho:o.op=.index t x y) (hx:okO x=true) (hy:okO y=true)
  (h:symIndex P t (ρ x) (ρ y)=some (b,v)) (hb:b=true):aread P ρ H o=some v:=by
 unfold symIndex at h
 split at h
 ·rename_i s k i e1 e2
  split at h
  ·rename_i hu
   simp only[Option.some.injEq,Prod.mk.injEq]at h;obtain ⟨h1,rfl⟩:=h;subst h1;simp only[Bool.and_eq_true,decide_eq_true_eq]at hb;simp only[aread,ho,hx,hy,e1,e2]
   show pureVal P (execOp ρ o)=_
   refine pureVal_of ?_ rfl
   simp only[execOp,ho,e1,e2]
   refine pure_val ?_
   have hlt:i.toNat<s.size:=by omega
   simp only[Instr.index,asIntOf,pureRun_bind,pureRun_pure,Option.bind_some,pure_underlying hu,hb.1,if_true]
   have hs:s[i.toNat]?=some s[i.toNat]:=by simp [hlt]
   rw[hs];simp only[getByte,hs]
   rfl
  ·cases h
 ·cases h
def symBound (v:Option Value)(d:Nat):Option (Bool×Nat) :=
 match v with
 | none=>some (true,d)
 | some (.int _ i)=>some (decide (0≤i),i.toNat)
 | some _=>none
theorem symBound_ok {v:Option Value}{d n:Nat}{b:Bool}(h:symBound v d=some (b,n)) (hb:b=true):bound v d=some n:=by
 unfold symBound at h
 split at h
 ·simp only[Option.some.injEq,Prod.mk.injEq]at h;rw[bound,h.2]
 ·simp only[Option.some.injEq,Prod.mk.injEq]at h
  obtain ⟨h1,rfl⟩:=h;subst h1;simp only[bound];rw[if_pos (of_decide_eq_true hb)]
 ·cases h
def symSlice (P:Program)(H:List Ob)(t:TypeId)(x:Value)(lo hi:Option Value):Option (Bool×Value) :=
 match x with
 | .slice (some ⟨b,off,none⟩) len sz =>
  match P.underlying t with
  | some (.slice e)=>match sizeB P e,symBound lo 0,symBound hi len with
   | some n,some (b1,l),some (b2,h)=>if n=sz then some (b1&&(b2&&(decide (l≤h)&&decide (h≤len))),.slice (some ⟨b,off+l*n,none⟩) (h-l) sz) else none
   | _,_,_=>none
  | _=>none
 | .func (.via 0 ⟨[]⟩ 0 true) c ⟨[.slice (some ⟨b,off,none⟩) len sz]⟩ =>
  match P.underlying t with
  | some (.slice e)=>match sizeB P e,symBound lo 0,symBound hi len with
   | some n,some (b1,l),some (b2,h)=>if n=sz then some (b1&&(b2&&(decide (l≤h)&&decide (h≤len))),.func (.via 0 ⟨[]⟩ 0 true) c ⟨[.slice (some ⟨b,off+l*n,none⟩) (h-l) sz]⟩) else none
   | _,_,_=>none
  | _=>none
 | .pointer (some ⟨b,off,none⟩) =>
  match P.underlying t with
  | some (.array n e)=>match sizeB P e,H[b]?,symBound lo 0,symBound hi n with
   | some z,some (.cells c false),some (b1,l),some (b2,h)=>if off+n*z≤c.size then some (b1&&(b2&&(decide (l<n)&&(decide (l≤h)&&decide (h≤n)))),.slice (some ⟨b,off+l*z,none⟩) (h-l) z) else none
   | _,_,_,_=>none
  | _=>none
 | _=>none
theorem symSlice_ok {P:Program}{H:List Ob}{t:TypeId}{x v:Value}{lo hi:Option Value}{b:Bool}(h:symSlice P H t x lo hi=some (b,v)) (hb:b=true):rSlice P H t lo hi x=some v∧gr x=false:=by
 unfold symSlice at h
 split at h
 ·split at h
  ·rename_i e hu
   split at h
   ·rename_i n b1 l b2 hh hn hl hr
    split at h
    ·rename_i hsz
     simp only[Option.some.injEq,Prod.mk.injEq]at h;obtain ⟨h1,rfl⟩:=h;subst h1;simp only[Bool.and_eq_true,decide_eq_true_eq]at hb
     refine ⟨?_,rfl⟩
     simp only[rSlice,hu,hn,symBound_ok hl hb.1,symBound_ok hr hb.2.1];rw[if_pos ⟨hb.2.2.1,hb.2.2.2,hsz⟩]
    ·cases h
   ·cases h
  ·cases h
 ·split at h
  ·rename_i e hu
   split at h
   ·rename_i n b1 l b2 hh hn hl hr
    split at h
    ·rename_i hsz
     simp only[Option.some.injEq,Prod.mk.injEq]at h;obtain ⟨h1,rfl⟩:=h;subst h1;simp only[Bool.and_eq_true,decide_eq_true_eq]at hb
     refine ⟨?_,rfl⟩
     simp only[rSlice,hu,hn,symBound_ok hl hb.1,symBound_ok hr hb.2.1];rw[if_pos ⟨hb.2.2.1,hb.2.2.2,hsz⟩]
    ·cases h
   ·cases h
  ·cases h
 ·split at h
  ·rename_i hu
   split at h
   ·rename_i b1 l b2 hh hz hc hl hr
    split at h
    ·rename_i hle
     simp only[Option.some.injEq,Prod.mk.injEq]at h;obtain ⟨h1,rfl⟩:=h;subst h1;simp only[Bool.and_eq_true,decide_eq_true_eq]at hb
     refine ⟨?_,rfl⟩
     simp only[rSlice,hu,hz,hc,symBound_ok hl hb.1,symBound_ok hr hb.2.1];rw[if_pos ⟨hle,hb.2.2.1,hb.2.2.2.1,hb.2.2.2.2⟩]
    ·cases h
   ·cases h
  ·cases h
 ·cases h
def foldI (f:Int→Int→Int)(k:IntKind):Int→List Value→Option Value
 | a,[]=>some (.int k a)
 | a,.int k' b::r=>if k'=k then foldI f k (f a b) r else none
 | _,_::_=>none
def symMost (b:Builtin)(vs:List Value):Option Value :=
 match vs with
 | .int k a::r=>(match b with
  | .max=>foldI max k a r
  | .min=>foldI min k a r
  | _=>none)
 | _=>none
theorem max2_eq (k:IntKind)(a b:Int):Builtin.max2 (.int k a) (.int k b)=pure (.int k (max a b)):=by
 simp only[Builtin.max2];congr 2;rw[Int.max_def];split<;>split<;>omega
theorem min2_eq (k:IntKind)(a b:Int):Builtin.min2 (.int k a) (.int k b)=pure (.int k (min a b)):=by
 simp only[Builtin.min2];congr 2;rw[Int.min_def];split<;>split<;>omega
theorem foldMax {P:Program}{k:IntKind}:∀{r:List Value}{a:Int}{v:Value},foldI max k a r=some v→pureRun P (r.foldlM Builtin.max2 (.int k a))=some v∧(∃n,v=.int k n)
 | [],a,v,h=>by simp only[foldI,Option.some.injEq]at h;subst h;exact ⟨rfl,_,rfl⟩
 | x::r,a,v,h=>by
  cases x<;>simp only[foldI]at h<;>first | (cases h;done) | skip
  rename_i k' b
  split at h
  ·rename_i hk
   subst hk;obtain ⟨h1,h2⟩:=foldMax (P:=P) h
   refine ⟨?_,h2⟩
   rw[List.foldlM_cons,max2_eq,pureRun_bind];exact h1
  ·cases h
theorem foldMin {P:Program}{k:IntKind}:∀{r:List Value}{a:Int}{v:Value},foldI min k a r=some v→pureRun P (r.foldlM Builtin.min2 (.int k a))=some v∧(∃n,v=.int k n)
 | [],a,v,h=>by simp only[foldI,Option.some.injEq]at h;subst h;exact ⟨rfl,_,rfl⟩
 | x::r,a,v,h=>by
  cases x<;>simp only[foldI]at h<;>first | (cases h;done) | skip
  rename_i k' b
  split at h
  ·rename_i hk
   subst hk;obtain ⟨h1,h2⟩:=foldMin (P:=P) h
   refine ⟨?_,h2⟩
   rw[List.foldlM_cons,min2_eq,pureRun_bind];exact h1
  ·cases h
theorem foldI_gr {f:Int→Int→Int}{k:IntKind}:∀{r:List Value}{a:Int}{v:Value},foldI f k a r=some v→r.all gr=true
 | [],_,_,_=>rfl
 | x::r,a,v,h=>by
  cases x<;>simp only[foldI]at h<;>first | (cases h;done) | skip
  split at h
  ·simp only[List.all_cons,Bool.and_eq_true];exact ⟨rfl,foldI_gr h⟩
  ·cases h
theorem symMost_ok {P:Program} {ρ:Operand→Value}{H:List Ob}{o:Oper}{b:Builtin}{args:Array Operand}{ts:Array TypeId}{v:Value}(ho:o.op=.call { callee:=.builtin b,args:=args,argTypes:=ts })
  (hx:args.toList.all okO=true) (h:symMost b (args.toList.map ρ)=some v):aread P ρ H o=some v:=by
 have hg:(args.toList.all fun x=>gr (ρ x))=true∧(b=.max∨b=.min):=by
  unfold symMost at h
  split at h
  ·rename_i k a r e
   have hall:(args.toList.map ρ).all gr=true∧(b=.max∨b=.min):=by
    rw[e,List.all_cons]
    split at h
    ·exact ⟨by rw[foldI_gr h];rfl,.inl rfl⟩
    ·exact ⟨by rw[foldI_gr h];rfl,.inr rfl⟩
    ·cases h
   rw[List.all_map]at hall;exact hall
  ·cases h
 have hn:numB b=true:=by rcases hg.2 with rfl | rfl<;>rfl
 simp only[aread,ho,hx,hg.1,hn,Bool.and_self,if_true]
 have hl:(args.map ρ).toList=args.toList.map ρ:=by simp
 unfold symMost at h
 split at h
 ·rename_i k a r e
  rcases hg.2 with rfl | rfl
  ·obtain ⟨h1,n,rfl⟩:=foldMax (P:=P) h
   refine pureVal_of ?_ rfl
   simp only[execOp,ho,resolve,pureRun_bind,pureRun_pure,Option.bind_some,invoke,builtin];simp only[Builtin.max_,hl,e];rw[h1];rfl
  ·obtain ⟨h1,n,rfl⟩:=foldMin (P:=P) h
   refine pureVal_of ?_ rfl
   simp only[execOp,ho,resolve,pureRun_bind,pureRun_pure,Option.bind_some,invoke,builtin];simp only[Builtin.min_,hl,e];rw[h1];rfl
 ·cases h
def eqFs (P:Program)(e:TypeId→Value→Value→Option Bool)(xs ys:Array Value):List Field→Option Bool
 | []=>some true
 | f::r =>
  if f.name = "_" then eqFs P e xs ys r else
  match rPart P f.type xs f.offset,rPart P f.type ys f.offset with
  | some u,some v=>match e f.type u v,eqFs P e xs ys r with
   | some b,some b'=>some (b&&b')
   | _,_=>none
  | _,_=>none
def eqRs (P:Program)(e:Value→Value→Option Bool)(elem:TypeId)(n:Nat)(xs ys:Array Value):List Nat→Option Bool
 | []=>some true
 | i::r=>match rPart P elem xs (i*n),rPart P elem ys (i*n) with
  | some u,some v=>match e u v,eqRs P e elem n xs ys r with
   | some b,some b'=>some (b&&b')
   | _,_=>none
  | _,_=>none
def eqT (P:Program):Nat→TypeId→Value→Value→Option Bool
 | 0,_,_,_=>none
 | d+1,t,x,y =>
  match P.underlying t,x,y with
  | some .bool,.bool a,.bool b=>some (a == b)
  | some (.int _),.int k a,.int k' b=>if k=k' then some (decide (a=b)) else none
  | some .string,.string a,.string b=>some (a == b)
  | some (.struct fs),.agg xs,.agg ys=>if P.stoodInHeld t then none else eqFs P (eqT P d) xs ys fs.toList
  | some (.array len e),.agg xs,.agg ys=>match sizeB P e with
   | some n=>eqRs P (eqT P d e) e n xs ys (List.range len)
   | none=>none
  | _,_,_=>none
theorem part_pure {P:Program}{t:TypeId}{cs:Array Value}{off:Nat}{v:Value}(h:rPart P t cs off=some v):pureRun P (part t cs off)=some v:=by
 unfold rPart at h;unfold part;rw[pureRun_bind]
 have hag:∀{b:Bool},isAggB P t=some b→pureRun P (isAgg t)=some b:=by
  intro b hb;unfold isAggB at hb;unfold isAgg;rw[pureRun_bind]
  split at hb
  ·rename_i hu;cases hb;rw[pure_underlying hu];rfl
  ·rename_i hu;cases hb;rw[pure_underlying hu];rfl
  ·rename_i d h1 h2 hu
   cases hb;rw[pure_underlying hu]
   cases d<;>first | rfl | exact (h1 _ rfl).elim | exact (h2 _ _ rfl).elim
  ·cases hb
 split at h
 ·rename_i ha
  rw[hag ha];simp only[Option.bind_some,if_true]
  split at h
  ·rename_i n hn
   simp only[Option.some.injEq]at h;subst h;unfold sizeB at hn;rw[Option.map_eq_some_iff]at hn;obtain ⟨i,hi,rfl⟩:=hn
   have:pureRun P (sizeOf t)=some i.size:=by
    unfold sizeOf typeInfo;simp only[pureRun_bind]
    show ((pureRun P (match P.info? t with | some i=>pure i | none=>_)).bind _)=_
    rw[hi];rfl
   rw[pureRun_bind,this];rfl
  ·cases h
 ·rename_i ha
  rw[hag ha];simp only[Option.bind_some,Bool.false_eq_true,if_false];rw[h];rfl
 ·cases h
theorem eqFs_ok {P:Program}{d:Nat}{xs ys:Array Value}(ih:∀t x y b,eqT P d t x y=some b→pureRun P (Op.equalIn d t x y)=some b):∀{fs:List Field}{b:Bool},eqFs P (eqT P d) xs ys fs=some b →
  pureRun P (do
   for f in fs do
    if f.name ≠ "_" then
     if !(← Op.equalIn d f.type (← part f.type xs f.offset) (← part f.type ys f.offset)) then return false
   pure true:Sem Bool)=some b:=by
 intro fs
 induction fs with
 | nil=>intro b h;simp only[eqFs,Option.some.injEq]at h;subst h;rfl
 | cons f r ihr =>
  intro b h;simp only[eqFs]at h;simp only[List.forIn_cons]
  by_cases hf : f.name = "_"
  ·rw[if_pos hf]at h
   simp only[hf,ne_eq,not_true_eq_false,if_false,pure_bind];exact ihr h
  ·rw[if_neg hf]at h
   split at h
   ·rename_i u v hu hv
    split at h
    ·rename_i b1 b2 h1 h2
     simp only[Option.some.injEq]at h;subst h;have e1:=ih _ _ _ _ h1;simp only[ne_eq,hf,not_false_eq_true,if_true,pureRun_bind,part_pure hu,part_pure hv,Option.bind_some,e1]
     cases b1 with
     | true =>
      have:=ihr h2;simp only[pureRun_bind,ne_eq]at this;exact this
     | false=>rfl
    ·cases h
   ·cases h
theorem eqRs_ok {P:Program}{d:Nat}{elem:TypeId}{n:Nat}{xs ys:Array Value}(ih:∀x y b,eqT P d elem x y=some b→pureRun P (Op.equalIn d elem x y)=some b):∀{is:List Nat}{b:Bool},eqRs P (eqT P d elem) elem n xs ys is=some b →
  pureRun P (do
   for i in is do
    if !(← Op.equalIn d elem (← part elem xs (i*n)) (← part elem ys (i*n))) then return false
   pure true:Sem Bool)=some b:=by
 intro is
 induction is with
 | nil=>intro b h;simp only[eqRs,Option.some.injEq]at h;subst h;rfl
 | cons i r ihr =>
  intro b h;simp only[eqRs]at h;simp only[List.forIn_cons]
  split at h
  ·rename_i u v hu hv
   split at h
   ·rename_i b1 b2 h1 h2
    simp only[Option.some.injEq]at h;subst h;have e1:=ih _ _ _ h1;simp only[pureRun_bind,part_pure hu,part_pure hv,Option.bind_some,e1]
    cases b1 with
    | true =>
     have:=ihr h2;simp only[pureRun_bind]at this;exact this
    | false=>rfl
   ·cases h
  ·cases h
theorem eqT_ok {P:Program}:∀{d:Nat}(t:TypeId) (x y:Value) (b:Bool),eqT P d t x y=some b→pureRun P (Op.equalIn d t x y)=some b
 | 0,_,_,_,_,h=>by cases h
 | d+1,t,x,y,b,h=>by
  unfold eqT at h
  split at h
  ·rename_i u c hu
   simp only[Option.some.injEq]at h;subst h;exact equalIn_bool d hu u c
  ·rename_i q k u k' c hu
   split at h
   ·rename_i hk
    subst hk;simp only[Option.some.injEq]at h;subst h;rw[← intEq];exact equalIn_int d hu k u c
   ·cases h
  ·rename_i u c hu
   simp only[Option.some.injEq]at h;subst h;exact equalIn_string d hu u c
  ·rename_i fs xs ys hu
   split at h
   ·cases h
   ·rename_i hst
    have:=eqFs_ok (fun t x y b=>eqT_ok t x y b) h
    unfold Op.equalIn;rw[pureRun_bind,pure_underlying hu];simp only[Option.bind_some]
    rw[pureRun_bind,show pureRun P program=some P from rfl]
    simp only[Option.bind_some];rw[if_neg hst,← Array.forIn_toList];exact this
  ·rename_i len e xs ys hu
   split at h
   ·rename_i n hn
    have hr:=eqRs_ok (fun x y b=>eqT_ok e x y b) h
    unfold Op.equalIn;rw[pureRun_bind,pure_underlying hu];simp only[Option.bind_some]
    have hsz:pureRun P (sizeOf e)=some n:=by
     unfold sizeB at hn;rw[Option.map_eq_some_iff]at hn;obtain ⟨i,hi,rfl⟩:=hn;unfold sizeOf typeInfo;simp only[pureRun_bind]
     show ((pureRun P (match P.info? e with | some i=>pure i | none=>_)).bind _)=_
     rw[hi];rfl
    rw[pureRun_bind,hsz];simp only[Option.bind_some]
    have hl:List.range' 0 len 1=List.range len:=by rw[List.range_eq_range']
    rw[Std.Legacy.Range.forIn_eq_forIn_range'];simp only[Std.Legacy.Range.size,Nat.sub_zero,Nat.add_sub_cancel,Nat.div_one,hl];exact hr
   ·cases h
  ·cases h
def symEq (P:Program)(op:BinOp)(t:TypeId)(x y:Value):Option (Bool×Value) :=
 match x,y with
 | .agg xs,.agg ys =>
  if P.eqGuardType P.depth t then none else
  match eqT P 10000 t (.agg xs) (.agg ys) with
  | some b=>(match op with | .eql=>some (gr x&&gr y,.bool b) | .neq=>some (gr x&&gr y,.bool (!b)) | _=>none)
  | none=>none
 | _,_=>none
theorem symEq_ok {P:Program} {ρ:Operand→Value}{H:List Ob}{o:Oper}{op:BinOp}{t yt:TypeId}{x y:Operand}{b:Bool}{v:Value}(ho:o.op=.binOp op t x y yt) (hx:okO x=true) (hy:okO y=true)
  (h:symEq P op t (ρ x) (ρ y)=some (b,v)) (hb:b=true):aread P ρ H o=some v:=by
 unfold symEq at h
 split at h
 ·rename_i xs ys e1 e2
  split at h
  ·cases h
  ·rename_i hg
   split at h
   ·rename_i c hc
    have hq:pureRun P (Op.equal t (.agg xs) (.agg ys))=some c:=eqT_ok _ _ _ _ hc
    have hguard:∀op',pureRun P (eqGuard op' t x y (.agg xs) (.agg ys))=some ():=by
     intro op';unfold eqGuard;have h1:pureRun P program=some P:=rfl
     cases op'<;>first | rfl | skip
     all_goals
      simp only[Bool.not_true,Bool.false_eq_true,if_false,pureRun_bind,h1,Option.bind_some]
      rw[if_pos (by simpa using hg)]
      rfl
    have main:∀u,pureRun P (binOp op t (.agg xs) (.agg ys))=some u→gr u=true→(gr (.agg xs)&&gr (.agg ys))=true→aread P ρ H o=some u:=by
     intro u hu hgu hgg
     have hp:=pure_bin (P:=P) (ρ:=ρ) ho (by rw[e1,e2];exact hguard _) (by rw[e1,e2];exact hu) hgu
     rw[Bool.and_eq_true]at hgg;unfold aread;simp only[ho,hx,hy,e1,e2];rw[hgg.1,hgg.2,hp]
     have hf:fastBin op (.agg xs) (.agg ys)=none:=by simp [fastBin]
     rw[hf];rfl
    split at h
    ·simp only[Option.some.injEq,Prod.mk.injEq]at h
     obtain ⟨h1,rfl⟩:=h
     exact main _ (by simp only[binOp];rw[pureRun_bind,hq];rfl) rfl (by rw[← e1,← e2];exact h1.trans hb)
    ·simp only[Option.some.injEq,Prod.mk.injEq]at h
     obtain ⟨h1,rfl⟩:=h
     exact main _ (by simp only[binOp];rw[pureRun_bind,hq];rfl) rfl (by rw[← e1,← e2];exact h1.trans hb)
    ·cases h
   ·cases h
 ·cases h
def symLen (P:Program)(t:TypeId)(x:Value):Option Value :=
 match x with
 | .slice _ n _=>match P.underlying t with | some (.slice _)=>some (goInt n) | _=>none
 | .string s=>match P.underlying t with | some .string=>some (goInt s.size) | _=>none
 | .func (.via 0 ⟨[]⟩ 0 true) _ ⟨[.slice (some ⟨_,_,none⟩) n _]⟩=>match P.underlying t with | some (.slice _)=>some (goInt n) | _=>none
 | _=>none
theorem symLen_ok {P:Program} {ρ:Operand→Value}{H:List Ob}{o:Oper}{args:Array Operand}{ts:Array TypeId}{x:Operand}{t:TypeId}{v:Value}(ho:o.op=.call { callee:=.builtin .len,args:=args,argTypes:=ts })
  (ha:args.toList=[x]) (ht:ts.toList=[t]) (hx:okO x=true) (h:symLen P t (ρ x)=some v):aread P ρ H o=some v:=by
 obtain rfl:args=#[x]:=by apply Array.ext';simpa using ha
 obtain rfl:ts=#[t]:=by apply Array.ext';simpa using ht
 unfold symLen at h
 have pv:∀{xv:Value} {d:TypeDesc} {m:Nat},ρ x=xv→P.underlying t=some d→pureRun P (Builtin.len_ #[t] o.type #[xv])=some (goInt m)→pureVal P (execOp ρ o)=some (goInt m):=by
  intro xv d m e hu hr
  refine pureVal_of ?_ rfl
  simp only[execOp,ho,resolve,pureRun_bind,pureRun_pure,Option.bind_some,invoke,builtin]
  have:(#[x]:Array Operand).map ρ=#[xv]:=by simp [e]
  rw[this,hr];rfl
 split at h
 ·rename_i a n c e
  split at h
  ·rename_i el hu
   simp only[Option.some.injEq]at h;subst h;simp only[aread,ho,List.all_cons,List.all_nil,hx,Bool.and_true,if_true,e]
   split
   ·rename_i hg
    refine pv e hu ?_
    simp only[Builtin.len_,List.getElem?_toArray,List.getElem?_cons_zero,pureRun_bind,pure_underlying hu,Option.bind_some]
    rfl
   ·simp only[rLen,hu]
  ·cases h
 ·rename_i s e
  split at h
  ·rename_i hu
   simp only[Option.some.injEq]at h;subst h;simp only[aread,ho,List.all_cons,List.all_nil,hx,Bool.and_true,if_true,e];have hg:(gr (Value.string s)&&numB Builtin.len)=true:=rfl;rw[if_pos hg]
   refine pv e hu ?_
   simp only[Builtin.len_,List.getElem?_toArray,List.getElem?_cons_zero,pureRun_bind,pure_underlying hu,Option.bind_some]
   rfl
  ·cases h
 ·rename_i c b off n z e
  split at h
  ·rename_i el hu
   simp only[Option.some.injEq]at h;subst h
   have hg:∀B:Bool,(gr (Value.func (.via 0 ⟨[]⟩ 0 true) c ⟨[.slice (some ⟨b,off,none⟩) n z]⟩)&&B)=false:=fun _=>rfl
   simp only[aread,ho,List.all_cons,List.all_nil,hx,Bool.and_true,if_true,e];rw[hg];simp only[rLen,hu]
   rfl
  ·cases h
 ·cases h
def lkL (P:Program)(t:TypeId)(k:Value)(es:List (Value×Value)):Option Value :=
 match P.underlying t with
 | some (.map kt et) =>
  if gr k=true∧pureRun P (Instr.checkKey es.isEmpty 10000 kt k)=some ()∧(P.underlying kt).isSome=true then
   match aFind P kt k (es.map (·.1)) 0 with
   | some (some j)=>match es[j]? with
    | some (_,v)=>some v
    | none=>none
   | some none=>zeroB P et
   | none=>none
  else none
 | _=>none
theorem lkL_eq {P:Program}{H:List Ob}{t:TypeId}{k:Value}{r:Nat}{es:List (Value×Value)}(hr:H[r]?=some (.map es)):rLookup P H t false k (.map (some r))=lkL P t k es:=by
 unfold rLookup lkL;simp only[hr]
 cases P.underlying t with
 | none=>rfl
 | some u =>
  cases u with
  | map kt et =>
   simp only
   split
   ·split
    ·split<;>simp_all
    ·split<;>simp_all
    ·simp_all
   ·rfl
  | _=>rfl
def lkIs (P:Program)(t:TypeId)(k:Value)(es:List (Value×Value)):Bool:=match lkL P t k es with
 | some (.bool _)=>true
 | _=>false
def lkOf (P:Program)(t:TypeId)(k:Value)(es:List (Value×Value)):Bool:=match lkL P t k es with
 | some (.bool b)=>b
 | _=>false
def symLookup (P:Program)(t:TypeId)(ok:Bool)(k x:Value)(H:List Ob):Option (Bool×Value) :=
 match ok,x with
 | false,.map (some r)=>(match nthO H r with
  | some (.map es)=>some (lkIs P t k es,.bool (lkOf P t k es))
  | _=>none)
 | _,_=>none
theorem symLookup_ok {P:Program} {ρ:Operand→Value}{H:List Ob}{o:Oper}{t:TypeId}{x k:Operand}{ok:Bool}{b:Bool}{v:Value}(ho:o.op=.lookup t x k ok) (hx:(okO x&&okO k)=true)
  (h:symLookup P t ok (ρ k) (ρ x) H=some (b,v)) (hb:b=true):aread P ρ H o=some v:=by
 unfold symLookup at h
 split at h
 ·rename_i r e
  split at h
  ·rename_i es hes
   rw[nthO_eq]at hes;simp only[Option.some.injEq,Prod.mk.injEq]at h;obtain ⟨rfl,rfl⟩:=h;have hg:gr (Value.map (some r))=false:=rfl;simp only[aread,ho,hx,if_true,e,hg,Bool.false_and,Bool.false_eq_true,if_false];rw[lkL_eq hes];unfold lkIs at hb;unfold lkOf
   split at hb
   ·rename_i b' hl;rw[hl]
   ·cases hb
  ·cases h
 ·cases h
def u8of (v:Value):UInt8:=match v with | .int .u8 n=>UInt8.ofNat n.toNat | _=>0
def isU8 (v:Value):Bool:=match v with | .int .u8 _=>true | _=>false
def bytesOf (c:Array Value)(off len:Nat):ByteArray:=⟨(c.extract off (off+len)).map u8of⟩
def allU8 (c:Array Value)(off len:Nat):Bool:=decide (off+len≤c.size)&&(c.extract off (off+len)).toList.all isU8
theorem pure_forBytes {P:Program}{f:Value→ByteArray→Sem (ForInStep ByteArray)}(hf:∀n s,pureRun P (f (.int .u8 n) s)=some (.yield (s.push (UInt8.ofNat n.toNat)))):∀(l:List Value) (s:ByteArray),l.all isU8=true →
  pureRun P (forIn l s f)=some ⟨s.data++(l.map u8of).toArray⟩
 | [],s,_=>by
  rw[List.forIn_nil,pureRun_pure]
  simp
 | v::l,s,h=>by
  rw[List.all_cons,Bool.and_eq_true]at h;rw[List.forIn_cons,pureRun_bind]
  cases v with
  | int k n =>
   cases k<;>first | (cases h.1;done) | skip
   rw[hf,Option.bind_some]
   show pureRun P (forIn l (s.push (UInt8.ofNat n.toNat)) f)=_
   rw[pure_forBytes hf l _ h.2]
   simp [ByteArray.push,u8of]
  | _=>cases h.1
theorem bytesTail_ok {P:Program}{arr:Array Value}(h:arr.toList.all isU8=true):pureRun P (bytesTail arr)=some (.string ⟨arr.map u8of⟩):=by
 unfold bytesTail;rw[pureRun_bind,← Array.forIn_toList]
 rw[pure_forBytes (P:=P) (fun n s=>rfl) arr.toList .empty h,Option.bind_some,pureRun_pure]
 congr 3
 apply Array.ext'
 simp
def symBytes (P:Program)(H:List Ob)(src dst:TypeId)(x:Value):Option (Bool×Value) :=
 match P.underlying src,P.underlying dst with
 | some (.slice e),some .string =>
  (match P.underlying e with
  | some (.int .u8) =>
    (match x with
    | .slice (some ⟨b,off,none⟩) len _=>some (isCells H b&&allU8 (cellsAt H b) off len,.string (bytesOf (cellsAt H b) off len))
    | .func (.via 0 ⟨[]⟩ 0 true) c ⟨[.slice (some ⟨_,off,none⟩) len _]⟩=>some (allU8 c off len,.string (bytesOf c off len))
    | _=>none)
  | _=>none)
 | _,_=>none
theorem u8_g0 {l:List Value}(h:l.all isU8=true):l.all g0=true:=by
 rw[List.all_eq_true]at h ⊢;intro v hv;have:=h v hv
 cases v<;>first | rfl | cases this
theorem symBytes_ok {P:Program} {ρ:Operand→Value}{H:List Ob}{o:Oper}{src dst:TypeId}{x:Operand}{b:Bool}{v:Value}(ho:o.op=.convert src dst x) (hx:okO x=true)
  (h:symBytes P H src dst (ρ x)=some (b,v)) (hb:b=true):aread P ρ H o=some v:=by
 unfold symBytes at h
 split at h
 ·rename_i e hs hd
  split at h
  ·rename_i he
   split at h
   ·rename_i bk off len c hxv
    simp only[Option.some.injEq,Prod.mk.injEq]at h;obtain ⟨rfl,rfl⟩:=h;rw[Bool.and_eq_true]at hb;obtain ⟨ro,hc⟩:=cells_ok hb.1;have h2:=hb.2;unfold allU8 at h2;rw[Bool.and_eq_true,decide_eq_true_eq]at h2;have hg:gr (Value.slice (some ⟨bk,off,none⟩) len c)=false:=rfl;simp only[aread,ho,hx,if_true,hxv,hg,Bool.false_eq_true,if_false,rBytes,hs,hd,hc,he];rw[if_pos ⟨h2.1,u8_g0 h2.2⟩,bytesTail_ok h2.2]
    rfl
   ·rename_i c bk off len z hxv
    simp only[Option.some.injEq,Prod.mk.injEq]at h;obtain ⟨rfl,rfl⟩:=h;have h2:=hb;unfold allU8 at h2;rw[Bool.and_eq_true,decide_eq_true_eq]at h2;have hg:gr (Value.func (.via 0 ⟨[]⟩ 0 true) c ⟨[.slice (some ⟨bk,off,none⟩) len z]⟩)=false:=rfl;simp only[aread,ho,hx,if_true,hxv,hg,Bool.false_eq_true,if_false,rBytesF,hs,hd,he];rw[if_pos ⟨h2.1,u8_g0 h2.2⟩,bytesTail_ok h2.2]
    rfl
   ·cases h
  ·cases h
 ·cases h
def symR (P:Program) (ρ:Operand→Value)(H:List Ob)(o:Oper):Option (Bool×Value) :=
 match o.op with
 | .load t x=>if okO x then symLoad P H t (ρ x) else none
 | .binOp op t x y _=>if okO x&&okO y then (match symBin P op t (ρ x) (ρ y) with | some r=>some r | none=>symEq P op t (ρ x) (ρ y)) else none
 | .indexAddr t x y=>if okO x&&okO y then symIx P t (ρ x) (ρ y) else none
 | .index t x y=>if okO x&&okO y then symIndex P t (ρ x) (ρ y) else none
 | .slice t x lo hi mx=>if okO x&&lo.all okO&&hi.all okO&&mx.isNone then symSlice P H t (ρ x) (lo.map ρ) (hi.map ρ) else none
 | .call { callee:=.builtin .len,args,argTypes } =>
  match args.toList,argTypes.toList with
  | [x],[t]=>if okO x then (symLen P t (ρ x)).map fun v=>(true,v) else none
  | _,_=>none
 | .lookup t x k ok=>if okO x&&okO k then symLookup P t ok (ρ k) (ρ x) H else none
 | .convert src dst x=>if okO x then symBytes P H src dst (ρ x) else none
 | .call { callee:=.builtin b,args,.. }=>if args.toList.all okO then (symMost b (args.toList.map ρ)).map fun v=>(true,v) else none
 | _=>none
theorem symR_ok {P:Program} {ρ:Operand→Value}{H:List Ob}{o:Oper}{b:Bool}{v:Value}(h:symR P ρ H o=some (b,v)) (hb:b=true):aread P ρ H o=some v:=by
 unfold symR at h
 split at h
 ·rename_i t x ho
  split at h
  ·rename_i hx
   simp only[aread,ho,hx,if_true];exact symLoad_ok h hb
  ·cases h
 ·rename_i op t x y yt ho
  split at h
  ·rename_i hx
   rw[Bool.and_eq_true]at hx
   split at h
   ·rename_i r hr
    simp only[Option.some.injEq]at h;subst h;exact symBin_ok ho hx.1 hx.2 hr hb
   ·exact symEq_ok ho hx.1 hx.2 h hb
  ·cases h
 ·rename_i t x y ho
  split at h
  ·rename_i hx
   simp only[aread,ho,hx,if_true];exact symIx_ok h hb
  ·cases h
 ·rename_i t x y ho
  split at h
  ·rename_i hx
   rw[Bool.and_eq_true]at hx;exact symIndex_ok ho hx.1 hx.2 h hb
  ·cases h
 ·rename_i t x lo hi mx ho
  split at h
  ·rename_i hx
   obtain ⟨h1,h2⟩:=symSlice_ok h hb;simp only[aread,ho,hx,if_true,h2,Bool.false_and,Bool.false_eq_true,if_false];exact h1
  ·cases h
 ·rename_i args ts ho
  split at h
  ·rename_i x t ha ht
   split at h
   ·rename_i hx
    rw[Option.map_eq_some_iff]at h;obtain ⟨u,hu,e⟩:=h;simp only[Prod.mk.injEq]at e;obtain ⟨_,rfl⟩:=e;exact symLen_ok ho ha ht hx hu
   ·cases h
  ·cases h
 ·rename_i t x k ok ho
  split at h
  ·rename_i hx
   exact symLookup_ok ho hx h hb
  ·cases h
 ·rename_i src dst x ho
  split at h
  ·rename_i hx
   exact symBytes_ok ho hx h hb
  ·cases h
 ·rename_i b args ts _ ho
  split at h
  ·rename_i hx
   rw[Option.map_eq_some_iff]at h;obtain ⟨u,hu,e⟩:=h;simp only[Prod.mk.injEq]at e;obtain ⟨_,rfl⟩:=e;exact symMost_ok ho hx hu
  ·cases h
 ·cases h
def headK {β:Type}(v:Value) (k:Value→β):β :=
 match v with
 | .bool b=>k (.bool b)
 | .int q n=>k (.int q n)
 | .float q n=>k (.float q n)
 | .complex q n m=>k (.complex q n m)
 | .string s=>k (.string s)
 | .pointer a=>k (.pointer a)
 | .slice a l c=>k (.slice a l c)
 | .map r=>k (.map r)
 | .chan r=>k (.chan r)
 | .func f a b=>k (.func f a b)
 | .nilFunc=>k .nilFunc
 | .iface t v=>k (.iface t v)
 | .nilIface=>k .nilIface
 | .agg cs=>k (.agg cs)
 | .tuple vs=>k (.tuple vs)
theorem headK_eq {β:Type}(v:Value) (k:Value→β):headK v k=k v:=by cases v<;>rfl
def headsK {β:Type}(l:List Value):(List Value→β)→β :=
 List.rec (motive:=fun _=>(List Value→β)→β) (fun k=>k []) (fun x _ ih k=>headK x fun x=>ih fun r=>k (x::r)) l
theorem headsK_eq {β:Type}:∀(l:List Value) (k:List Value→β),headsK l k=k l
 | [],_=>rfl
 | x::r,k=>by show headK x (fun x=>headsK r fun r=>k (x::r))=_;rw[headK_eq];exact headsK_eq r fun r=>k (x::r)
def setK' {β:Type}(t:List Value) (dst:Option Tmp) (v:Value) (k:List Value→β):β :=
 match dst with
 | some d=>headK v fun v=>lsetK t d v k
 | none=>k t
theorem setK'_eq {β:Type}(t:List Value) (dst:Option Tmp) (v:Value) (k:List Value→β):setK' t dst v k=k (put t dst v):=by
 cases dst with
 | none=>rfl
 | some d=>simp only[setK',put,headK_eq,lsetK_eq]
def heapK {β:Type}(h:Hp) (k:Hp→β):β:=forceS h.bl fun bl=>k { bl:=bl,base:=h.base,wr:=h.wr }
theorem heapK_eq {β:Type}(h:Hp) (k:Hp→β):heapK h k=k h:=by simp only[heapK,forceS_eq]
def litT (t:List Value)(d:Nat)(b:Bool):List Value:=lset t d (.bool b)
theorem lset_lget:∀(t:List Value) (d:Nat) (v:Value),lget t d=v→v≠undef→lset t d v=t
 | [],_,v,h,hn=>rfl
 | x::r,0,v,h,_=>by have:x=v:=h;subst this;rfl
 | x::r,d+1,v,h,hn=>by show x::lset r d v=_;rw[lset_lget r d v h hn]
theorem litT_eq {t:List Value}{d:Nat}{b:Bool}(h:lget t d=.bool b):litT t d b=t:=lset_lget t d _ h (by intro h;cases h)
def litK {β:Type}(t:List Value) (d:Nat) (b:Bool) (k:List Value→β):β:=lsetK t d (.bool b) k
theorem litK_eq {β:Type}{t:List Value}{d:Nat}{b:Bool}(h:lget t d=.bool b) (k:List Value→β):litK t d b k=k t:=by
 rw[litK,lsetK_eq];congr 1;exact litT_eq h
abbrev Kn:=Out→Option Out
abbrev SelfC:=Task→Kn→Option Out
def CpsOk (c:SelfC)(s:Self):Prop:=∀(t:Task) (k:Kn) (r:Out),c t k=some r→∃o,s t=some o∧k o=some r
theorem cond_some {α:Type}{b:Bool}{x:Option α}{r:α}(h:cond b x none=some r):b=true∧x=some r:=by
 cases b with
 | true=>exact ⟨rfl,h⟩
 | false=>cases h
def newC (H:List Ob)(size n:Nat)(x:Value)(k:Array Value→Option Out):Option Out :=
 match x with
 | .slice (some ⟨b,off,none⟩) _ _ =>
  match nthO H b with
  | some (.cells c _)=>cond (decide (off+n*size≤c.size)) (k (c.extract off (off+n*size))) none
  | _=>none
 | .func (.via 0 ⟨[]⟩ 0 true) c ⟨[.slice (some ⟨_,off,none⟩) _ _]⟩=>cond (decide (off+n*size≤c.size)) (k (c.extract off (off+n*size))) none
 | .string s=>k (strBytes (s.extract 0 n))
 | _=>none
theorem newC_ok {H:List Ob}{size n:Nat}{x:Value}{k:Array Value→Option Out}{r:Out}(h:newC H size n x k=some r):∃c,newB H size n x=some c∧k c=some r:=by
 unfold newC at h
 split at h
 ·rename_i b off l c
  rw[nthO_eq]at h
  split at h
  ·rename_i c ro hb
   obtain ⟨h1,h2⟩:=cond_some h
   exact ⟨_,by simp only[newB,hb];rw[if_pos (of_decide_eq_true h1)],h2⟩
  ·cases h
 ·obtain ⟨h1,h2⟩:=cond_some h
  exact ⟨_,by simp only[newB];rw[if_pos (of_decide_eq_true h1)],h2⟩
 ·exact ⟨_,rfl,h⟩
 ·cases h
def natF {β:Type}(n:Nat) (k:Nat→β):β:=Nat.rec (motive:=fun _=>β) (k 0) (fun m _=>k m) (Nat.add n 1)
theorem natF_eq {β:Type}(n:Nat) (k:Nat→β):natF n k=k n:=rfl
def oneAll (c:Array Value):Bool:=c.toList.all (·.oneCell')
def appendC (P:Program)(h:Hp)(ts tx:TypeId)(s x:Value)(k:Value→Hp→Option Out):Option Out :=
 match P.underlying ts,P.underlying tx with
 | some (.slice e),some d =>
  if intB d=true then none else
  match P.info? e,zeroB P e with
  | some inf,some z =>
   natF inf.size fun isz=>natF inf.bytes fun iby =>
   match s,lenB x with
   | .slice base sl sz,some n =>
    natF n fun n =>
    cond (decide (n=0)) (k (.slice base sl sz) h)
    (newC h.bl isz n x fun news =>
      cond (decide (news.size=n*isz)&&(oneAll news&&decide (z.cells.size=isz))) (cond (decide ((sl+n)*iby≤140737488355328)&&decide (sl+n≤4611686018427387904))
       (match base with
       | none=>cond (decide (sl=0)) (k (.slice (some ⟨h.bl.length,0,none⟩) n isz) (h.push (.cells news false))) none
       | some ⟨b,off,none⟩ =>
         match nthO h.bl b with
         | some (.cells c false) =>
          cond (decide (sz=isz)) (cond (decide (off+sl*isz≤c.size))
           (k (.slice (some ⟨h.bl.length,0,none⟩) (sl+n) isz) ((h.put b .dead).push (.cells (c.extract off (off+sl*isz)++news) false))) none) none
         | _=>none
       | _=>none) none) none)
   | _,_=>none
  | _,_=>none
 | _,_=>none
theorem appendC_ok {P:Program}{h:Hp}{ts tx:TypeId}{s x:Value}{k:Value→Hp→Option Out}{r:Out}(hc:appendC P h ts tx s x k=some r):∃v h',lAppend P h ts tx s x=some (v,h')∧k v h'=some r:=by
 unfold appendC at hc;simp only[natF_eq]at hc;unfold lAppend
 split at hc
 ·rename_i e d hu1 hu2
  rw[hu1,hu2];simp only
  split at hc
  ·cases hc
  ·rename_i hi
   rw[if_neg hi]
   split at hc
   ·rename_i inf z h1 h2
    rw[h1,h2];simp only
    split at hc
    ·rename_i base sl sz n hn
     rw[hn];simp only
     cases h0:decide (n=0) with
     | true =>
      rw[h0]at hc;rw[if_pos (of_decide_eq_true h0)];exact ⟨_,_,rfl,hc⟩
     | false =>
      rw[h0]at hc;rw[if_neg (of_decide_eq_false h0)];rw[cond_false]at hc;obtain ⟨news,hnew,hc⟩:=newC_ok hc;rw[hnew];simp only;obtain ⟨hcn1,hc⟩:=cond_some hc;obtain ⟨hcn2,hc⟩:=cond_some hc;simp only[Bool.and_eq_true,decide_eq_true_eq]at hcn1 hcn2;rw[if_pos ⟨hcn2.1,hcn2.2,hcn1⟩]
      split at hc
      ·obtain ⟨hs,hc⟩:=cond_some hc
       simp only;rw[if_pos (of_decide_eq_true hs)];exact ⟨_,_,rfl,hc⟩
      ·rename_i b off
       rw[nthO_eq]at hc
       split at hc
       ·rename_i c hb
        obtain ⟨hs1,hc⟩:=cond_some hc;obtain ⟨hs2,hc⟩:=cond_some hc;have hs:=And.intro (of_decide_eq_true hs1) (of_decide_eq_true hs2);simp only[hb];rw[if_pos ⟨hs,hs.2⟩];exact ⟨_,_,rfl,hc⟩
       ·cases hc
      ·cases hc
    ·cases hc
   ·cases hc
 ·cases hc
def storeC (P:Program)(h:Hp)(t:TypeId)(x v:Value)(k:Hp→Option Out):Option Out :=
 match x with
 | .pointer (some ⟨b,off,none⟩) =>
  match nthO h.bl b,sizeB P t with
  | some (.cells c false),some n =>
   cond (notT v&&(decide (v.cells.size=n)&&(decide (off+n≤c.size)&&v.cells.toList.all (·.oneCell')))) (k (h.put b (.cells (wcells c off v.cells.toList) false))) none
  | _,_=>none
 | _=>none
theorem storeC_ok {P:Program}{h:Hp}{t:TypeId}{x v:Value}{k:Hp→Option Out}{r:Out}(hc:storeC P h t x v k=some r):∃h',lStore P h t x v=some h'∧k h'=some r:=by
 unfold storeC at hc
 split at hc
 ·rename_i b off
  rw[nthO_eq]at hc
  split at hc
  ·rename_i c n hb hn
   obtain ⟨h1,hc⟩:=cond_some hc;simp only[Bool.and_eq_true,decide_eq_true_eq]at h1
   exact ⟨_,by simp only[lStore,hb,hn];rw[if_pos ⟨h1.1,h1.2.1,h1.2.2.1,h1.2.2.2⟩],hc⟩
  ·cases hc
 ·cases hc
def upL (P:Program)(t:TypeId)(k v:Value)(es:List (Value×Value)):Option (List (Value×Value)) :=
 match P.underlying t with
 | some (.map kt _) =>
  if gr k=true∧pureRun P (Instr.checkKey false 10000 kt k)=some ()∧(P.underlying kt).isSome=true then
   match aFind P kt k (es.map (·.1)) 0 with
   | some (some j)=>match es[j]? with
    | some (k0,_)=>match pureRun P (Instr.keyThatStays k0 k) with
     | some k1=>some (es.set j (k1,v))
     | none=>none
    | none=>none
   | some none=>some (es++[(k,v)])
   | none=>none
  else none
 | _=>none
theorem upL_eq {P:Program}{h:Hp}{t:TypeId}{k v:Value}{r:Nat}{es:List (Value×Value)}(hr:h.bl[r]?=some (.map es)):lMapUpdate P h t k v (.map (some r))=(upL P t k v es).map fun e=>h.put r (.map e):=by
 unfold lMapUpdate upL;simp only[hr]
 cases P.underlying t with
 | none=>rfl
 | some u =>
  cases u with
  | map kt et =>
   simp only
   split
   ·split
    ·split
     ·split<;>simp_all
     ·simp_all
    ·simp_all
    ·simp_all
   ·rfl
  | _=>rfl
def upIs (P:Program)(t:TypeId)(k v:Value)(es:List (Value×Value)):Bool:=(upL P t k v es).isSome
def upOf (P:Program)(t:TypeId)(k v:Value)(es:List (Value×Value)):List (Value×Value):=(upL P t k v es).getD []
def updC (P:Program)(h:Hp)(t:TypeId)(k v x:Value)(kk:Hp→Option Out):Option Out :=
 match x with
 | .map (some r) =>
  match nthO h.bl r with
  | some (.map es)=>cond (upIs P t k v es) (kk (h.put r (.map (upOf P t k v es)))) none
  | _=>none
 | _=>none
theorem updC_ok {P:Program}{h:Hp}{t:TypeId}{k v x:Value}{kk:Hp→Option Out}{r:Out}(hc:updC P h t k v x kk=some r):∃h',lMapUpdate P h t k v x=some h'∧kk h'=some r:=by
 unfold updC at hc
 split at hc
 ·rename_i b
  split at hc
  ·rename_i es hes
   rw[nthO_eq]at hes;obtain ⟨h1,hc⟩:=cond_some hc
   refine ⟨_,?_,hc⟩
   rw[upL_eq hes];unfold upIs at h1;obtain ⟨e,he⟩:=Option.isSome_iff_exists.1 h1;simp only[upOf,he,Option.map_some,Option.getD_some]
  ·cases hc
 ·cases hc
def zrow (z:Array Value)(n:Nat):Array Value:=zeroRow z n
theorem zrow_g0 {z:Array Value}{n:Nat}(hz:z.toList.all g0=true) (h0:z.toList.isEmpty=false):(zeroRow z n).toList.all g0=true:=by
 have hs:0<z.size:=by
  rw[← Array.length_toList]
  cases h:z.toList with
  | nil=>rw[h]at h0;cases h0
  | cons x r=>simp
 rw[List.all_eq_true]at hz ⊢;intro v hv;unfold zeroRow at hv;rw[Array.toList_map,List.mem_map]at hv;obtain ⟨i,_,rfl⟩:=hv;have hi:i % z.size<z.size:=Nat.mod_lt _ hs;rw[getElem!_pos z (i % z.size) hi]
 exact hz _ (by rw[Array.mem_toList_iff];exact Array.getElem_mem hi)
def makeC (P:Program)(h:Hp)(t:TypeId)(l c:Value)(k:Value→Hp→Option Out):Option Out :=
 match l,c with
 | .int _ n,.int _ m =>
  match P.underlying t with
  | some (.slice e) =>
   match P.info? e,zeroB P e with
   | some inf,some z =>
    natF inf.size fun isz=>natF inf.bytes fun iby =>
    cond (decide (n=m)&&(decide (0≤n)&&decide (n≤16777216))) (cond (decide (n.toNat*iby≤140737488355328)) (cond (z.cells.toList.all g0&&!z.cells.toList.isEmpty)
       (k (.slice (some ⟨h.bl.length,0,none⟩) n.toNat isz) (h.push (.cells (zrow z.cells (n.toNat*isz)) false))) none) none) none
   | _,_=>none
  | _=>none
 | _,_=>none
theorem makeC_ok {P:Program}{h:Hp}{t:TypeId}{l c:Value}{k:Value→Hp→Option Out}{r:Out}(hc:makeC P h t l c k=some r):∃v h',lMakeSlice P h t l c=some (v,h')∧k v h'=some r:=by
 unfold makeC at hc;simp only[natF_eq]at hc
 split at hc
 case h_2=>cases hc
 rename_i q n q' m
 split at hc
 case h_2=>cases hc
 rename_i e hu
 split at hc
 case h_2=>cases hc
 rename_i inf z hi hz;obtain ⟨h1,hc⟩:=cond_some hc;obtain ⟨h2,hc⟩:=cond_some hc;obtain ⟨h3,hc⟩:=cond_some hc;simp only[Bool.and_eq_true,decide_eq_true_eq,Bool.not_eq_true']at h1 h2 h3
 refine ⟨_,_,?_,hc⟩
 unfold lMakeSlice;simp only[hu,hi,Option.map_some,Option.getD_some]
 by_cases h4:n.toNat*inf.size=0
 ·rw[if_pos h4]
  have e1:zeroRow (Value.agg #[]).cells (n.toNat*inf.size)=#[]:=by rw[h4];simp [zeroRow]
  have e2:zrow z.cells (n.toNat*inf.size)=#[]:=by unfold zrow;rw[h4];simp [zeroRow]
  simp only[e1,e2];rw[if_pos ⟨⟨h1.1,h1.2.1,h1.2.2⟩,h2,rfl⟩]
 ·rw[if_neg h4,hz]
  simp only;rw[if_pos ⟨⟨h1.1,h1.2.1,h1.2.2⟩,h2,zrow_g0 h3.1 h3.2⟩]
  rfl
structure Ends where
 val:Value→Hp→Option Out
 enter:FuncId→List Value→Option Out
 yield:Nat→List Value→Option Out
 defer:Deferred→Option Out
 panic:Value→Option Out
def loudC (P:Program) (ρ:Operand→Value)(h:Hp)(o:Oper)(k:Ends):Option Out :=
 match o.op with
 | .store t a x=>if okO a&&okO x then storeC P h t (ρ a) (ρ x) (k.val undef) else none
 | .mapUpdate t m x y=>if okO m&&okO x&&okO y then updC P h t (ρ x) (ρ y) (ρ m) (k.val undef) else none
 | .makeSlice t l c=>if okO l&&okO c then makeC P h t (ρ l) (ρ c) k.val else none
 | .call { callee:=.builtin .append,args,argTypes } =>
  match args.toList,argTypes.toList with
  | [s,x],[ts,tx]=>if okO s&&okO x then appendC P h ts tx (ρ s) (ρ x) k.val else none
  | _,_=>none
 | .call { callee:=.value f,args,.. } =>
  if okO f&&args.toList.all okO then
   match ρ f with
   | .func (.func g) first cap=>if bodied P g then k.enter g (first.toList++(args.toList.map ρ++cap.toList)) else none
   | .func (.yield l) first _=>if first.isEmpty then k.yield l (args.toList.map ρ) else none
   | _=>none
  else none
 | _ =>
  match aloud P ρ h o with
  | some (.val v h')=>k.val v h'
  | some (.enter f args)=>k.enter f args.toList
  | some (.yield l args)=>k.yield l args.toList
  | some (.defer d)=>k.defer d
  | some (.panic v)=>k.panic v
  | _=>none
def Ends.on (k:Ends):Nx→Option Out
 | .val v h=>k.val v h
 | .enter f args=>k.enter f args.toList
 | .yield l args=>k.yield l args.toList
 | .defer d=>k.defer d
 | .panic v=>k.panic v
 | .recover=>none
theorem loudC_ok {P:Program} {ρ:Operand→Value}{h:Hp}{o:Oper}{k:Ends}{r:Out}(hc:loudC P ρ h o k=some r):∃nx,aloud P ρ h o=some nx∧k.on nx=some r:=by
 unfold loudC at hc
 split at hc
 ·rename_i t a x ho
  split at hc
  ·rename_i hx
   obtain ⟨h',h1,h2⟩:=storeC_ok hc
   exact ⟨.val undef h',by simp only[aloud,ho,hx,if_true,h1,Option.map_some],h2⟩
  ·cases hc
 ·rename_i t m x y ho
  split at hc
  ·rename_i hx
   obtain ⟨h',h1,h2⟩:=updC_ok hc
   exact ⟨.val undef h',by simp only[aloud,ho,hx,if_true,h1,Option.map_some],h2⟩
  ·cases hc
 ·rename_i t l c ho
  split at hc
  ·rename_i hx
   obtain ⟨v,h',h1,h2⟩:=makeC_ok hc
   exact ⟨.val v h',by simp only[aloud,ho,hx,if_true,h1,Option.map_some],h2⟩
  ·cases hc
 ·rename_i args ts ho
  split at hc
  ·rename_i s x t1 t2 e1 e2
   split at hc
   ·rename_i hx
    obtain ⟨v,h',h1,h2⟩:=appendC_ok hc
    exact ⟨.val v h',by simp only[aloud,ho,e1,e2,hx,if_true,h1,Option.map_some],h2⟩
   ·cases hc
  ·cases hc
 ·rename_i f args ts ho
  split at hc
  ·rename_i hx
   split at hc
   ·rename_i g first cap hf
    split at hc
    ·rename_i hb
     refine ⟨.enter g (first++args.map ρ++cap),by simp only[aloud,ho,hx,if_true,hf,hb],?_⟩
     simp only[Ends.on,Array.toList_append,Array.toList_map,List.append_assoc];exact hc
    ·cases hc
   ·rename_i l first cap hf
    split at hc
    ·rename_i hb
     refine ⟨.yield l (args.map ρ),by simp only[aloud,ho,hx,if_true,hf,hb],?_⟩
     simp only[Ends.on,Array.toList_map];exact hc
    ·cases hc
   ·cases hc
  ·cases hc
 ·split at hc
  ·rename_i h1;exact ⟨_,h1,hc⟩
  ·rename_i h1;exact ⟨_,h1,hc⟩
  ·rename_i h1;exact ⟨_,h1,hc⟩
  ·rename_i h1;exact ⟨_,h1,hc⟩
  ·rename_i h1;exact ⟨_,h1,hc⟩
  ·cases hc
def Ends.heap (k:Ends):Ends:={ k with val:=fun v h=>heapK h fun h=>k.val v h }
theorem Ends.heap_on {k:Ends}{nx:Nx}:k.heap.on nx=k.on nx:=by
 cases nx<;>simp only[Ends.heap,Ends.on,heapK_eq]
def opC (P:Program) (ρ:Operand→Value)(h:Hp)(o:Oper)(k:Ends):Option Out :=
 match o.op with
 | .pick c a b=>if okO c&&okO a&&okO b then (match ρ c with | .bool t=>cond t (k.val (ρ a) h) (k.val (ρ b) h) | _=>none) else none
 | _ =>
  match symR P ρ h.bl o with
  | some (b,v)=>cond b (k.val v h) none
  | none=>match aread P ρ h.bl o with
   | some v=>k.val v h
   | none=>loudC P ρ h o k.heap
theorem opC_ok {P:Program} {ρ:Operand→Value}{h:Hp}{o:Oper}{k:Ends}{r:Out}(hc:opC P ρ h o k=some r):∃nx,aop P ρ h o=some nx∧k.on nx=some r:=by
 unfold opC at hc
 split at hc
 ·rename_i c a b ho
  split at hc
  ·rename_i hx
   split at hc
   ·rename_i t ht
    cases t with
    | true=>exact ⟨.val (ρ a) h,by simp only[aop,aread,ho,hx,if_true,ht],hc⟩
    | false=>exact ⟨.val (ρ b) h,by simp only[aop,aread,ho,hx,if_true,ht,Bool.false_eq_true,if_false],hc⟩
   ·cases hc
  ·cases hc
 ·split at hc
  ·rename_i b v hs
   obtain ⟨h1,h2⟩:=cond_some hc
   exact ⟨.val v h,by simp only[aop,symR_ok hs h1],h2⟩
  ·split at hc
   ·rename_i v ha
    exact ⟨.val v h,by simp only[aop,ha],hc⟩
   ·rename_i ha
    obtain ⟨nx,h1,h2⟩:=loudC_ok hc
    exact ⟨nx,by simp only[aop,ha,h1],by rw[← Ends.heap_on];exact h2⟩
def guardC (os:Array Oper)(o:Oper)(t:List Value)(yes no:List Value→Option Out):Option Out :=
 match o.guard with
 | none=>yes t
 | some (j,want) =>
  match (os[j]?).bind (·.dst) with
  | some d=>match lget t d with
   | .bool b=>(match want with
    | true=>cond b (litK t d true yes) (litK t d false no)
    | false=>cond b (litK t d true no) (litK t d false yes))
   | _=>no t
  | none=>no t
theorem guardC_ok {os:Array Oper}{o:Oper}{t:List Value}{yes no:List Value→Option Out}{r:Out}(h:guardC os o t yes no=some r) :
  (wantedT os t o=true∧yes t=some r)∨(wantedT os t o=false∧no t=some r):=by
 unfold guardC at h;unfold wantedT
 split at h
 ·rename_i hg;rw[hg];exact .inl ⟨rfl,h⟩
 ·rename_i j want hg
  rw[hg];simp only
  split at h
  ·rename_i d hd
   rw[hd];simp only
   split at h
   ·rename_i b hl
    rw[hl];simp only
    cases b with
    | true =>
     cases want with
     | true=>simp only[cond_true]at h;rw[litK_eq hl]at h;exact .inl ⟨rfl,h⟩
     | false=>simp only[cond_true]at h;rw[litK_eq hl]at h;exact .inr ⟨rfl,h⟩
    | false =>
     cases want with
     | true=>simp only[cond_false]at h;rw[litK_eq hl]at h;exact .inr ⟨rfl,h⟩
     | false=>simp only[cond_false]at h;rw[litK_eq hl]at h;exact .inl ⟨rfl,h⟩
   ·rename_i hne
    refine .inr ⟨?_,h⟩
    generalize hv:lget t d=v at hne ⊢
    cases v<;>first | rfl | exact (hne _ rfl).elim
  ·rename_i hd
   rw[hd];exact .inr ⟨rfl,h⟩
section
variable {P:Program}{self:SelfC}{sd:Self}
def runOpsC (P:Program)(self:SelfC)(rd:Option Nat)(os:Array Oper):List Nat→St→(Ex→St→Option Out)→Option Out
 | [],s,k=>k .normal s
 | i::r,s,k =>
  match os[i]? with
  | none=>runOpsC P self rd os r s k
  | some o =>
   guardC os o s.t
    (fun t=>opC P (evalT t) s.h o {
      val:=fun v h=>setK' t o.dst v fun t=>runOpsC P self rd os r { t:=t,d:=s.d,h:=h } k
      enter:=fun f args=>headsK args fun args=>self (.call f ⟨args⟩ s.h) fun
       | .ret v h=>setK' t o.dst v fun t=>runOpsC P self rd os r { t:=t,d:=s.d,h:=h } k
       | .pan v h=>k (.panic v) { t:=t,d:=s.d,h:=h }
       | _=>none
      yield:=fun l args=>headsK args fun args=>self (.round l ⟨args⟩ s.h) fun
       | .ret v h=>setK' t o.dst v fun t=>runOpsC P self rd os r { t:=t,d:=s.d,h:=h } k
       | _=>none
      defer:=fun d=>if rd.isNone then setK' t o.dst undef fun t=>runOpsC P self rd os r { t:=t,d:=d::s.d,h:=s.h } k else none
      panic:=fun v=>k (.panic v) { t:=t,d:=s.d,h:=s.h } })
    (fun t=>setK' t o.dst undef fun t=>runOpsC P self rd os r { t:=t,d:=s.d,h:=s.h } k)
theorem runOpsC_ok (hs:CpsOk self sd) {rd:Option Nat}{os:Array Oper}:∀{l:List Nat}{s:St}{k:Ex→St→Option Out}{r:Out},runOpsC P self rd os l s k=some r →
  ∃e s',runOps P sd rd os l s=some (.ex e s')∧k e s'=some r
 | [],s,k,r,h=>⟨_,_,rfl,h⟩
 | i::l,s,k,r,h=>by
  simp only[runOpsC]at h;simp only[runOps]
  split at h
  ·rename_i hi
   rw[hi];exact runOpsC_ok hs h
  ·rename_i o hi
   rw[hi];simp only[putK_eq,forceH_eq]
   rcases guardC_ok h with ⟨hw,h⟩ | ⟨hw,h⟩
   ·rw[if_pos hw]
    obtain ⟨nx,h1,h2⟩:=opC_ok h;rw[h1]
    cases nx with
    | val v hp =>
     simp only[Ends.on,setK'_eq]at h2;exact runOpsC_ok hs h2
    | enter f args =>
     simp only[Ends.on,headsK_eq]at h2;obtain ⟨o',h3,h4⟩:=hs _ _ _ h2;simp only
     rw[show (⟨args.toList⟩:Array Value)=args from rfl]at h3
     rw[h3]
     cases o' with
     | ret v hp =>
      simp only[setK'_eq]at h4;exact runOpsC_ok hs h4
     | pan v hp=>exact ⟨_,_,rfl,h4⟩
     | ex _ _=>cases h4
     | dret _ _=>cases h4
    | yield l' args =>
     simp only[Ends.on,headsK_eq]at h2;obtain ⟨o',h3,h4⟩:=hs _ _ _ h2;simp only
     rw[show (⟨args.toList⟩:Array Value)=args from rfl]at h3
     rw[h3]
     cases o' with
     | ret v hp =>
      simp only[setK'_eq]at h4;exact runOpsC_ok hs h4
     | pan v hp=>cases h4
     | ex _ _=>cases h4
     | dret _ _=>cases h4
    | defer d =>
     simp only[Ends.on]at h2
     split at h2
     ·rename_i hrd
      simp only;rw[if_pos hrd];simp only[setK'_eq]at h2;exact runOpsC_ok hs h2
     ·cases h2
    | panic v=>exact ⟨_,_,rfl,h2⟩
    | recover=>cases h2
   ·rw[if_neg (by rw[hw];intro h;cases h)]
    simp only[setK'_eq]at h;exact runOpsC_ok hs h
end
end
end Go.Gi
