/- Part 5 of the texts below the claim. Conditions: none. -/
import Derived.Test.YtdidolncblhngaaMg4
set_option linter.unusedVariables false
set_option linter.unusedSimpArgs false
namespace Go.Gi
open Go.RowKit
noncomputable section
section
variable {P:Program}{self:Self}{os:Array Oper}{clo:List Nat}{recs:List Rec}{T0 T1:List Value}{h0 h1:Hp}{K:Nat→Prop}{w0 w:World}{D E:Nat→Bool}{Bf:Nat→Nat} {φ:Phi}{T:List Value}{a:Act}
theorem FS.noWait (p:PlanF P self os clo recs T0 h0 T1 h1)(hL:Landed recs D E) {q r:Rec}(hq:q∈recs) (hqD:∀k,cl clo q.i k=true→D k=true) (hr:IsFl recs D E r):cl clo q.i r.i=false:=by
  cases hc:cl clo q.i r.i with
  | false=>rfl
  | true =>
    exfalso
    rcases hL with hL | ⟨pre,s,post,e,sl,sD,hpre⟩
    · have:=hL r hr.1 hr.2.1
      rw [hr.2.2.2.2]at this;cases this
    · have hrp:r∈post:=by
        have:=hr.1
        rw [e]at this
        rcases List.mem_append.1 this with h | h
        · have:=hpre r h hr.2.1;rw [hr.2.2.2.2]at this;cases this
        · rcases List.mem_cons.1 h with h | h
          · subst h;have:=hr.2.2.2.1;rw [sD]at this;cases this
          · exact h
      obtain ⟨b,c,rfl⟩:=List.append_of_mem hrp
      have e2:recs=(pre++s::b)++r::c:=by rw [e];simp
      have hqc:q∈c:=by
        have hq':=hq
        rw [e2]at hq'
        have hpw:=p.pw
        rw [e2,List.pairwise_append,List.pairwise_cons]at hpw
        rcases List.mem_append.1 hq' with h | h
        · have:=(hpw.2.2 q h r (by simp)).2;rw [this]at hc;cases hc
        · rcases List.mem_cons.1 h with h | h
          · subst h
            obtain ⟨x,hx,hxi⟩:=p.pre _ q c e2 q.i hc
            exact absurd hxi (hpw.2.2 x hx q (by simp)).1
          · exact h
      have:=p.flo _ r c e2 hr.2.1 hr.2.2.1 s (by simp) sl q hqc hc
      have:=hqD s.i this
      rw [sD]at this;cases this
theorem FS.goodE (p:PlanF P self os clo recs T0 h0 T1 h1)(s:FS P clo recs T0 h0 K w0 D E Bf φ T a w)(hL:Landed recs D E)(hlt:∀i,D i=true→i<os.size) {q:Rec}(hq:q∈recs) (hg:Good clo D q.i):Good clo E q.i:=by
  have key:∀{x:Rec},x∈recs→(∀k,cl clo x.i k=true→D k=true)→∀k,cl clo x.i k=true→E k=true:=by
    intro x hx hxD k hk
    have hkD:=hxD k hk
    obtain ⟨r,hr,rfl⟩:=p.all k (hlt k hkD)
    cases hE:E r.i with
    | true=>rfl
    | false =>
      obtain ⟨h1,h2⟩:=s.rest r hr hkD hE
      have:=FS.noWait p hL hx hxD ⟨hr,h1,h2,hkD,hE⟩
      rw [hk]at this;cases this
  refine ⟨?_,?_,key hq hg.2.2⟩
  · intro j k hj hk
    have hjD:=s.sub j hj
    obtain ⟨x,hx,rfl⟩:=p.all j (hlt j hjD)
    exact key hx (fun k hk=>s.shut x.i k hjD hk) k hk
  · cases hE:E q.i with
    | false=>rfl
    | true=>have:=s.sub _ hE;rw [hg.2.1]at this;cases this
theorem FS.slot (p:PlanF P self os clo recs T0 h0 T1 h1)(s:FS P clo recs T0 h0 K w0 D E Bf φ T a w)(hL:Landed recs D E) {pre post:List Rec}{q:Rec}(e:recs=pre++q::post) (hg:Good clo D q.i) (hE:Good clo E q.i) {t:Tmp}(ht:t∈q.o.looksAt os):lget T t=lget q.T t:=by
  rw [s.keepT t ?_]
  · exact p.look e hE ht
  · intro r hr hd
    rcases p.two' e hr.1 with rfl | ⟨l,hp⟩
    · have:=hr.2.2.2.1;rw [hg.2.1]at this;cases this
    · simp only [pairF,hd,Bool.or_eq_true,beq_iff_eq,Bool.and_eq_true]at hp
      rcases hp with hp | hp
      · have:=hr.2.2.2.1;rw [hp,hg.2.1]at this;cases this
      · rcases hp.1.2 with (h | h) | h
        · rw [show (looks os q.o).contains t=true from by rw [List.contains_iff_mem];exact ht]at h;cases h
        · have:=FS.noWait p hL (by rw [e];simp) hg.2.2 hr
          rw [h]at this;cases this
        · have:=s.shut r.i q.i hr.2.2.2.1 h
          rw [hg.2.1]at this;cases this
theorem FS.ev (p:PlanF P self os clo recs T0 h0 T1 h1)(s:FS P clo recs T0 h0 K w0 D E Bf φ T a w)(hL:Landed recs D E) {pre post:List Rec}{q:Rec}(e:recs=pre++q::post) (hg:Good clo D q.i) (hE:Good clo E q.i):∀x∈q.o.op.operands,evalT T x=evalT q.T x:=by
  intro x hx
  cases x with
  | tmp t=>exact s.slot p hL e hg hE (List.mem_append_left _ (List.mem_filterMap.2 ⟨.tmp t,by simpa using hx,rfl⟩))
  | const v=>rfl
  | global g=>rfl
  | func f=>rfl
theorem FS.wants (p:PlanF P self os clo recs T0 h0 T1 h1)(s:FS P clo recs T0 h0 K w0 D E Bf φ T a w)(hL:Landed recs D E) {pre post:List Rec}{q:Rec}(e:recs=pre++q::post) (hg:Good clo D q.i) (hE:Good clo E q.i):wantedT os T q.o=wantedT os q.T q.o:=by
  unfold wantedT
  cases hgd:q.o.guard with
  | none=>rfl
  | some g =>
    obtain ⟨j,want⟩:=g
    simp only
    cases hd:(os[j]?).bind (·.dst) with
    | none=>rfl
    | some d =>
      simp only
      rw [s.slot p hL e hg hE (t:=d) (List.mem_append_right _ (by simp [hgd,hd]))]
theorem FS.dst (p:PlanF P self os clo recs T0 h0 T1 h1) {pre post:List Rec}{q:Rec}(e:recs=pre++q::post) (hg:Good clo D q.i) {r:Rec}(hr:IsFl recs D E r) {t:Tmp}(hd:r.o.dst=some t):q.o.dst≠some t:=by
  intro h
  rcases p.two' e hr.1 with rfl | ⟨l,hp⟩
  · have:=hr.2.2.2.1;rw [hg.2.1]at this;cases this
  · simp only [pairF,hd,Bool.or_eq_true,beq_iff_eq,Bool.and_eq_true]at hp
    rcases hp with hp | hp
    · have:=hr.2.2.2.1;rw [hp,hg.2.1]at this;cases this
    · have:=hp.1.1;rw [h]at this;simp at this
theorem FS.next (p:PlanF P self os clo recs T0 h0 T1 h1)(s:FS P clo recs T0 h0 K w0 D E Bf φ T a w) {pre post:List Rec}{q:Rec}(e:recs=pre++q::post) (hg:Good clo D q.i) (hE:Good clo E q.i)
    (hb:q.loud=true→∀r∈pre,r.loud=true→E r.i=true) {D':Nat→Bool} (hD1:D' q.i=true) (hD2:∀j,j≠q.i→D' j=D j) (hsh:Shut clo D') {φ':Phi} {v':Value} {w':World} (hle:le φ φ') (hv:VR φ' q.v v')
    (hI:Inv (fun k=>K k∨∃r,IsFl recs D E r∧Bf r.i=k) w φ' (HD (add E q.i) recs h0).bl w') (hro:∀(b:Nat) (ob:Ob),(HD (add E q.i) recs h0).bl[b]?=some ob→ob.live=true→ob.rw=false→(HD E recs h0).bl[b]?=some ob) :
    FS P clo recs T0 h0 K w0 D' (add E q.i) Bf φ' (put T q.o.dst q.v) (a.put q.o.dst v') w':=by
  have hfl:∀x,IsFl recs D' (add E q.i) x→IsFl recs D E x∧x.i≠q.i:=by
    rintro x ⟨x1,x2,x3,x4,x5⟩
    have hne:x.i≠q.i:=fun h=>by rw [h,add_same]at x5;cases x5
    rw [add_ne E hne]at x5
    rw [hD2 _ hne]at x4
    exact ⟨⟨x1,x2,x3,x4,x5⟩,hne⟩
  have hfl':∀x,IsFl recs D E x→IsFl recs D' (add E q.i) x:=by
    rintro x ⟨x1,x2,x3,x4,x5⟩
    have hne:x.i≠q.i:=fun h=>by rw [h,hg.2.1]at x4;cases x4
    exact ⟨x1,x2,x3,by rw [hD2 _ hne];exact x4,by rw [add_ne E hne];exact x5⟩
  have nT:=p.nextT (D:=E) (D':=add E q.i) e hE.2.1 (add_same E q.i) (fun j hj=>add_ne E hj)
  have hkp:∀k,(K k∨∃r,IsFl recs D E r∧Bf r.i=k)→w'.heap[k]?=w.heap[k]?:=fun k hk=>hI.keep k hk
  refine ⟨?_,?_,s.pref.add p e hE.2.1 hb,hsh,?_,?_,vrs_put (fun i=>(s.frame i).mono fun _ _ h=>h.mono hle) hv _,?_,?_,?_,?_,?_⟩
  · intro i hi
    by_cases h:i=q.i
    · subst h;exact hD1
    · rw [add_ne E h]at hi;rw [hD2 _ h];exact s.sub i hi
  · intro x hx hxD hxE
    have hne:x.i≠q.i:=fun h=>by rw [h,add_same]at hxE;cases hxE
    rw [add_ne E hne]at hxE
    rw [hD2 _ hne]at hxD
    exact s.rest x hx hxD hxE
  · rw [put_length];exact s.len
  · intro u hu
    rw [nT]
    have hk:=s.keepT u fun x hx=>hu x (hfl' x hx)
    cases hd:q.o.dst with
    | none=>exact hk
    | some t =>
      show lget (lset T t q.v) u=lget (lset (TD E recs T0) t q.v) u
      by_cases hut:t=u
      · subst hut;exact lget_lset_congr (by rw [s.len,TD_length])
      · rw [lget_lset_ne hut,lget_lset_ne hut];exact hk
  · refine hI.rebase.weaken ?_
    rintro k (hk | ⟨x,hx,hk⟩)
    · exact .inl hk
    · exact .inr ⟨x,(hfl x hx).1,hk⟩
  · refine ⟨fun k hk=>(hkp k (.inl hk)).trans (s.kept.keep k hk),s.kept.klt,Nat.le_trans s.kept.size hI.size,hI.os.trans s.kept.os,hI.tape.trans s.kept.tape,hI.output.trans s.kept.output⟩
  · intro x hx
    obtain ⟨hx',hne⟩:=hfl x hx
    obtain ⟨k1,C,el,t,k2,k3,k4,k5,k6⟩:=s.fl x hx'
    refine ⟨k1,C,el,t,k2,(hkp _ (.inr ⟨x,hx',rfl⟩)).trans k3,?_,k5,k6⟩
    have hdn:=FS.dst p e hg hx' k2
    cases hd:q.o.dst with
    | none=>exact k4
    | some u =>
      show (a.tmps.setIfInBounds u v')[t]?=_
      rw [Array.getElem?_setIfInBounds_ne (by rw [hd]at hdn;intro h;exact hdn (by rw [h]))]
      exact k4
  · intro x y hx hy h
    exact s.inj x y (hfl x hx).1 (hfl y hy).1 h
  · intro x hx b ob y hob hlv hrw hy
    obtain ⟨hx',_⟩:=hfl x hx
    have h1:=hro b ob hob hlv hrw
    obtain ⟨B,bs,tot,h2,_⟩:=s.inv.obs b ob h1 hlv
    have h3:=hle b _ h2
    rw [hy]at h3
    cases h3
    exact s.ro x hx' b ob _ h1 hlv hrw h2
theorem FS.float (p:PlanF P self os clo recs T0 h0 T1 h1)(s:FS P clo recs T0 h0 K w0 D E Bf φ T a w) {pre post:List Rec}{q:Rec}(e:recs=pre++q::post) (hg:Good clo D q.i) (hql:q.loud=true) (hqa:isAl q.o=true)
    {D':Nat→Bool} (hD1:D' q.i=true) (hD2:∀j,j≠q.i→D' j=D j) (hsh:Shut clo D') {C:Array Value} {el:TypeId} {t:Tmp} (hdst:q.o.dst=some t) (hlt:t<T.length)
    (hv:q.v=.pointer (some ⟨q.hb.bl.length,0,none⟩)) {c:Array Value} (hha:q.ha.bl=q.hb.bl++[.cells c false]) (hc:∀ψ:Phi,VRs ψ c C) :
    FS P clo recs T0 h0 K w0 D' E (fun i=>if i=q.i then w.heap.size else Bf i) φ (put T q.o.dst undef) (a.put q.o.dst (.pointer (some ⟨w.heap.size,0,none⟩))) (w.alloc (.cells C el (0,0))):=by
  have hm:q∈recs:=by rw [e];simp
  have hqE:E q.i=false:=by
    cases h:E q.i with
    | false=>rfl
    | true=>have:=s.sub _ h;rw [hg.2.1]at this;cases this
  have hnew:∀x,IsFl recs D' E x→x=q∨(IsFl recs D E x∧x.i≠q.i):=by
    rintro x ⟨x1,x2,x3,x4,x5⟩
    by_cases h:x.i=q.i
    · exact .inl (mem_i p e x1 h)
    · rw [hD2 _ h]at x4;exact .inr ⟨⟨x1,x2,x3,x4,x5⟩,h⟩
  have hold:∀x,IsFl recs D E x→IsFl recs D' E x∧x.i≠q.i:=by
    rintro x ⟨x1,x2,x3,x4,x5⟩
    have hne:x.i≠q.i:=fun h=>by rw [h,hg.2.1]at x4;cases x4
    exact ⟨⟨x1,x2,x3,by rw [hD2 _ hne];exact x4,x5⟩,hne⟩
  have hqf:IsFl recs D' E q:=⟨hm,hql,hqa,hD1,hqE⟩
  have hwsz:∀k,(K k∨∃r,IsFl recs D E r∧Bf r.i=k)→k<w.heap.size:=fun k hk=>s.inv.klt k hk
  have hwk:∀k,k<w.heap.size→(w.alloc (.cells C el (0,0))).heap[k]?=w.heap[k]?:=fun k hk=>Below.heap_alloc w _ k hk
  have hsz:(w.alloc (.cells C el (0,0))).heap.size=w.heap.size+1:=by simp
  refine ⟨?_,?_,s.pref,hsh,by rw [put_length];exact s.len,?_,vrs_put s.frame (.top _ rfl) _,?_,?_,?_,?_,?_⟩
  · intro i hi
    by_cases h:i=q.i
    · subst h;exact hD1
    · rw [hD2 _ h];exact s.sub i hi
  · intro x hx hxD hxE
    by_cases h:x.i=q.i
    · rw [mem_i p e hx h];exact ⟨hql,hqa⟩
    · rw [hD2 _ h]at hxD;exact s.rest x hx hxD hxE
  · intro u hu
    have hut:t≠u:=fun h=>hu q hqf (by rw [hdst,h])
    rw [hdst]
    show lget (lset T t undef) u=_
    rw [lget_lset_ne hut]
    exact s.keepT u fun x hx=>hu x (hold x hx).1
  · refine (s.inv.float _).weaken ?_
    rintro k (hk | ⟨x,hx,hk⟩)
    · exact .inl (.inl hk)
    · rcases hnew x hx with rfl | ⟨hx',hne⟩
      · exact .inr (by rw [← hk,if_pos rfl])
      · exact .inl (.inr ⟨x,hx',by rw [if_neg hne]at hk;exact hk⟩)
  · refine ⟨fun k hk=>(hwk k (hwsz k (.inl hk))).trans (s.kept.keep k hk),s.kept.klt,by have:=s.kept.size;omega,s.kept.os,s.kept.tape,s.kept.output⟩
  · intro x hx
    rcases hnew x hx with rfl | ⟨hx',hne⟩
    · refine ⟨fun hk=>?_,C,el,t,hdst,?_,?_,hv,c,hha,hc⟩
      · simp only [if_true]at hk;have:=hwsz _ (.inl hk);omega
      · simp only [if_true];exact World.alloc_heap_new w _
      · rw [hdst]
        show (a.tmps.setIfInBounds t _)[t]?=_
        simp only [if_true]
        rw [Array.getElem?_setIfInBounds_self_of_lt]
        have h9:a.tmps.size=T.length:=by simpa using s.frame.size.symm
        rw [h9];exact hlt
    · obtain ⟨k1,C',el',t',k2,k3,k4,k5,k6⟩:=s.fl x hx'
      simp only [if_neg hne]
      refine ⟨k1,C',el',t',k2,(hwk _ (hwsz _ (.inr ⟨x,hx',rfl⟩))).trans k3,?_,k5,k6⟩
      have hdn:=FS.dst p e hg hx' k2
      rw [hdst]at hdn ⊢
      show (a.tmps.setIfInBounds t _)[t']?=_
      rw [Array.getElem?_setIfInBounds_ne (fun h=>hdn (by rw [h]))]
      exact k4
  · intro x y hx hy h
    rcases hnew x hx with rfl | ⟨hx',hnx⟩<;>rcases hnew y hy with rfl | ⟨hy',hny⟩
    · rfl
    · simp only [if_true,if_neg hny]at h
      have:=hwsz _ (.inr ⟨y,hy',rfl⟩);omega
    · simp only [if_true,if_neg hnx]at h
      have:=hwsz _ (.inr ⟨x,hx',rfl⟩);omega
    · simp only [if_neg hnx,if_neg hny]at h
      exact s.inj x y hx' hy' h
  · intro x hx b ob y hob hlv hrw hy
    rcases hnew x hx with rfl | ⟨hx',hne⟩
    · simp only [if_true]
      obtain ⟨B,bs,tot,h2,h3⟩:=s.inv.obs b ob hob hlv
      rw [hy]at h2;cases h2
      have:=h3.lt hlv
      intro h;simp only at h;omega
    · simp only [if_neg hne]
      exact s.ro x hx' b ob y hob hlv hrw hy
end
section
variable {P:Program}{self:Self}{os:Array Oper}{clo:List Nat}{recs:List Rec}{T0 T1:List Value}{h0 h1:Hp}
theorem PlanF.ready {listed:Array Bool}{i:Nat}(p:PlanF P self os clo recs T0 h0 T1 h1) (hs:Shut clo fun j=>listed.getD j false) (hz:listed.size=os.size) (hi:i∈Region.ready .any os listed) :
    i<os.size∧Good clo (fun j=>listed.getD j false) i:=by
  rw [mem_ready]at hi
  obtain ⟨hu,o,ho,hall⟩:=hi
  have hlt:i<os.size:=(Array.getElem?_eq_some_iff.1 ho).1
  refine ⟨hlt,hs,?_,?_⟩
  · have:i<listed.size:=by omega
    simp only [Array.getD_eq_getD_getElem?,Array.getElem?_eq_getElem this,Option.getD_some]at hu ⊢
    exact hu
  · intro k hk
    obtain ⟨d,hd,h⟩:=(p.clos i hlt k).1 hk
    rw [ho]at hd
    simp only [Option.map_some,Option.getD_some,depsOf,List.mem_map,List.mem_filter,Array.mem_toList_iff]at hd
    obtain ⟨e,⟨he,hb⟩,rfl⟩:=hd
    have hl:=hall e he hb
    rcases h with rfl | h
    · exact hl
    · exact hs _ _ hl h
theorem PlanF.done {listed:Array Bool}(p:PlanF P self os clo recs T0 h0 T1 h1) (hz:listed.size=os.size) (hr:Region.ready .any os listed=[]):∀(pre post:List Rec),recs=pre++post→∀r∈pre,listed.getD r.i false=true:=by
  intro pre
  induction hn:pre.length generalizing pre with
  | zero=>intro post e r hr;rw [List.length_eq_zero_iff]at hn;subst hn;cases hr
  | succ n ih =>
    intro post e r hrm
    rcases List.eq_nil_or_concat pre with rfl | ⟨pre',q,rfl⟩
    · cases hrm
    rw [List.concat_eq_append]at *
    simp only [List.length_append,List.length_cons,List.length_nil,Nat.zero_add,Nat.add_right_cancel_iff]at hn
    have e':recs=pre'++q::post:=by rw [e];simp
    have hpre:=ih pre' hn (q::post) e'
    rcases List.mem_append.1 hrm with hrm | hrm
    · exact hpre r hrm
    · simp only [List.mem_cons,List.not_mem_nil,or_false]at hrm
      subst hrm
      cases hl:listed.getD r.i false with
      | true=>rfl
      | false =>
        have hm:r∈recs:=by rw [e'];simp
        have hlt:=p.lt r hm
        have:r.i∈Region.ready .any os listed:=by
          rw [mem_ready]
          refine ⟨?_,r.o,(p.tr.recs r hm).1,?_⟩
          · have:r.i<listed.size:=by omega
            simp only [Array.getD_eq_getD_getElem?,Array.getElem?_eq_getElem this,Option.getD_some]at hl ⊢
            exact hl
          · intro ed hed hb
            obtain ⟨s,hs,he⟩:=p.pre pre' r post e' ed.on ((p.clos r.i hlt ed.on).2 ⟨ed.on,by
              rw [(p.tr.recs r hm).1]
              simp only [Option.map_some,Option.getD_some,depsOf,List.mem_map,List.mem_filter,Array.mem_toList_iff]
              exact ⟨ed,⟨hed,hb⟩,rfl⟩,.inl rfl⟩)
            rw [← he];exact hpre s hs
        rw [hr]at this;cases this
theorem list_ext_lget {l m:List Value}(h:l.length=m.length) (hg:∀t,lget l t=lget m t):l=m:=by
  apply List.ext_getElem h
  intro i h1 h2
  have:=hg i
  rw [lget_eq,lget_eq,Array.getD_eq_getD_getElem?,Array.getD_eq_getD_getElem?,List.getElem?_toArray,List.getElem?_toArray,List.getElem?_eq_getElem h1,List.getElem?_eq_getElem h2]at this
  exact this
theorem al_rec {r:Rec}(h:RecOk P self os r) (hl:r.loud=true) (ha:isAl r.o=true) :
    wantedT os r.T r.o=true∧∃(t:TypeId) (d:Tmp) (z:Value),r.o.op=.alloc t∧r.o.dst=some d∧zeroB P t=some z∧r.v=.pointer (some ⟨r.hb.bl.length,0,none⟩)∧r.ha.bl=r.hb.bl++[.cells z.cells false]:=by
  rcases h with ⟨_,_,_,h⟩ | ⟨_,_,_,h⟩ | ⟨hw,_,h,_⟩
  · rw [hl]at h;cases h
  · rw [hl]at h;cases h
  · refine ⟨hw,?_⟩
    unfold isAl at ha
    split at ha
    · rename_i t ho
      obtain ⟨d,hd⟩:=Option.isSome_iff_exists.1 ha
      unfold dloud aloud at h
      rw [ho]at h
      simp only at h
      cases hz:lAlloc P r.hb t with
      | none=>rw [hz]at h;cases h
      | some x =>
        obtain ⟨v,h'⟩:=x
        rw [hz]at h
        simp only [Option.map_some,Option.some.injEq,Prod.mk.injEq]at h
        unfold lAlloc at hz
        split at hz
        · rename_i z hzb
          simp only [Option.some.injEq,Prod.mk.injEq]at hz
          obtain ⟨rfl,rfl⟩:=hz
          refine ⟨t,d,z,ho,hd,hzb,h.1.symm,?_⟩
          rw [← h.2];rfl
        · cases hz
    · cases ha
theorem PlanF.run (hN:NoNG P)(hs:SelfOk P self)(p:PlanF P self os clo recs T0 h0 T1 h1)(hb:h0.base≤h0.bl.length)(hdl:∀r∈recs,r.loud=true→isAl r.o=true→∀t,r.o.dst=some t→t<T0.length)
    {rd:Option Nat} {d:List Deferred} {K:Nat→Prop} {w0:World} {F:Fence} {n:Nat} {Q:Exit→Act→World→Prop} :
    ∀(fuel:Nat) (listed:Array Bool) (U:List Nat) (E:Nat→Bool) (Bf:Nat→Nat) (φ:Phi) (T:List Value) (a:Act) (w:World),listed.size=os.size →
      (∀i,i<os.size→listed.getD i false=false→i∈U)→U.length≤fuel →
      FS P clo recs T0 h0 K w0 (fun j=>listed.getD j false) E Bf φ T a w→DRs φ d a.defers→FenceOk φ rd F →
      (∀x a w',CodeR K w0 φ .normal ⟨T1,d,h1⟩ x a w'→Q x a w')→wpAnyIn F n P .any os Q fuel listed a w:=by
  intro fuel
  have fin:∀(listed:Array Bool) (E:Nat→Bool) (Bf:Nat→Nat) (φ:Phi) (T:List Value) (a:Act) (w:World),listed.size=os.size →
      FS P clo recs T0 h0 K w0 (fun j=>listed.getD j false) E Bf φ T a w→DRs φ d a.defers →
      (∀x a w',CodeR K w0 φ .normal ⟨T1,d,h1⟩ x a w'→Q x a w')→Region.ready .any os listed=[]→Q .normal a w:=by
    intro listed E Bf φ T a w hz s hd hQ hr
    have hall:=p.done hz hr recs [] (by simp)
    obtain ⟨E,φ',T,hle,s,hL⟩:=FS.landAll p recs [] E φ T rfl s (by simp)
    have hE:∀r∈recs,E r.i=true:=by
      intro r hr
      cases hc:E r.i with
      | true=>rfl
      | false =>
        obtain ⟨h1,h2⟩:=s.rest r hr (hall r hr) hc
        rcases hL with hL | ⟨pre,x,post,e,_,hx,_⟩
        · rw [hL r hr h1]at hc;cases hc
        · have:=hall x (by rw [e];simp)
          simp only at hx
          rw [hx]at this;cases this
    obtain ⟨l1,l2⟩:=p.tr.last
    have hT:T=T1:=by
      rw [l1,← TD_congr (D:=E) (D':=fun _=>true) T0 fun r hr=>hE r hr]
      refine list_ext_lget (by rw [s.len,TD_length]) fun t=>s.keepT t fun r hr=>?_
      have:=hE r hr.1
      rw [hr.2.2.2.2]at this;cases this
    have hH:HD E recs h0=h1:=by rw [l2];exact HD_congr h0 fun r hr _=>hE r hr
    subst hT
    have hI:=s.inv
    rw [hH]at hI
    refine hQ _ _ _ ⟨φ',hle,.normal,s.frame,hd.mono hle,?_⟩
    exact hI.back (K:=K) (w0:=w0) (fun k hk=>⟨.inl hk,s.kept.keep k hk,s.kept.klt k hk⟩) s.kept.size s.kept.os s.kept.tape s.kept.output
  induction fuel with
  | zero =>
    intro listed U E Bf φ T a w hz hU hf s hd hF hQ
    have hn:Region.ready .any os listed=[]:=by
      rw [List.eq_nil_iff_forall_not_mem]
      intro i hi
      obtain ⟨hlt,_,hg,_⟩:=p.ready s.shut hz hi
      have:=hU i hlt hg
      rw [List.length_eq_zero_iff.1 (Nat.le_zero.1 hf)]at this
      cases this
    exact ⟨hn,fin listed E Bf φ T a w hz s hd hQ hn⟩
  | succ fuel ih =>
    intro listed U E Bf φ T a w hz hU hf s hd hF hQ
    refine ⟨fin listed E Bf φ T a w hz s hd hQ,?_⟩
    intro i hi
    obtain ⟨E,φ1,T,hle1,s,hL⟩:=FS.landAll p recs [] E φ T rfl s (by simp)
    replace hd:=hd.mono hle1
    replace hF:=hF.mono hle1
    replace hQ:∀x a w',CodeR K w0 φ1 .normal ⟨T1,d,h1⟩ x a w'→Q x a w':=fun x a w' hc=>hQ x a w' (hc.mono hle1)
    clear hle1
    obtain ⟨hlt,hg⟩:=p.ready s.shut hz hi
    obtain ⟨q,hq,rfl⟩:=p.all i hlt
    obtain ⟨pre,post,e⟩:=List.append_of_mem hq
    obtain ⟨ho,hrec⟩:=p.tr.recs q hq
    have hlt':q.i<listed.size:=by omega
    have hDlt:∀i,listed.getD i false=true→i<os.size:=by
      intro i hi
      rcases Nat.lt_or_ge i listed.size with h | h
      · omega
      · simp [Array.getD_eq_getD_getElem?,Array.getElem?_eq_none h]at hi
    have hgE:=s.goodE p hL hDlt hq hg
    have d1:(listed.setIfInBounds q.i true).getD q.i false=true:=by simp [hlt']
    have d2:∀j,j≠q.i→(listed.setIfInBounds q.i true).getD j false=listed.getD j false:=fun j hj=>getD_set_ne false (Ne.symm hj)
    have hsh':Shut clo fun j=>(listed.setIfInBounds q.i true).getD j false:=by
      intro j k hj hk
      by_cases hjq:j=q.i
      · subst hjq
        exact getD_set_true (hg.2.2 k hk)
      · simp only [d2 j hjq]at hj
        exact getD_set_true (s.shut j k hj hk)
    have goOn:∀(E':Nat→Bool) (Bf':Nat→Nat) (φ':Phi) (T':List Value) (a':Act) (w':World),le φ1 φ'→FS P clo recs T0 h0 K w0 (fun j=>(listed.setIfInBounds q.i true).getD j false) E' Bf' φ' T' a' w'→DRs φ' d a'.defers →
        wpAnyIn F n P .any os Q fuel (listed.setIfInBounds q.i true) a' w':=by
      intro E' Bf' φ' T' a' w' hle s' hd'
      refine ih _ (U.erase q.i) E' Bf' φ' T' a' w' (by simp [hz]) ?_ ?_ s' hd' (hF.mono hle) (fun x a w'' hc=>hQ x a w'' (hc.mono hle))
      · intro j hj hl
        have hne:j≠q.i:=fun he=>by rw [he,d1]at hl;cases hl
        rw [d2 j hne]at hl
        exact (List.mem_erase_of_ne hne).2 (hU j hj hl)
      · have:=List.length_erase_of_mem (hU q.i hlt hg.2.1)
        omega
    have hwe:=s.wants p hL e hg hgE
    have hev:=s.ev p hL e hg hgE
    simp only [wpOpIn,ho]
    rw [wanted_eq s.frame,hwe]
    have quiet:∀(v':Value),q.loud=false→VR φ1 q.v v'→FS P clo recs T0 h0 K w0 (fun j=>(listed.setIfInBounds q.i true).getD j false) (add E q.i) Bf φ1 (put T q.o.dst q.v) (a.put q.o.dst v') w:=by
      intro v' hl hv
      have hH:=p.nextQuiet (D:=E) (D':=add E q.i) hq hl (fun j hj=>add_ne E hj)
      exact s.next p e hg hgE (fun h=>by rw [hl]at h;cases h) d1 d2 hsh' (le_refl φ1) hv (by rw [hH];exact s.inv) (fun b ob h1 _ _=>by rw [hH]at h1;exact h1)
    rcases hrec with ⟨r1,r2,r3,r4⟩ | ⟨r1,r2,r3,r4⟩ | ⟨r1,r2,r3,r4⟩
    · rw [if_neg (by rw [r1];simp)]
      refine ⟨fun f _=>hF.fn f,?_⟩
      exact goOn _ _ _ _ _ _ (le_refl φ1) (quiet undef r4 (by rw [r2];exact VR.undef φ1)) (by rw [put_defers];exact hd)
    · rw [if_pos r1]
      refine ⟨fun f _=>hF.fn f,?_⟩
      have ha:=p.read e hgE s.pref r4 r1 r2
      rw [← aread_congr hev]at ha
      have hnd:∀c,q.o.op≠.defer c:=fun c hc=>by
        unfold aread at ha
        rw [hc]at ha
        simp at ha
      obtain ⟨v',hr,hv⟩:=aread_sound s.inv (evs_t s.frame) ha
      rw [sem_plain (.inl hnd),hr]
      exact goOn _ _ _ _ _ _ (le_refl φ1) (quiet v' r4 hv) (by rw [put_defers];exact hd)
    · rw [if_pos r1]
      refine ⟨fun f _=>hF.fn f,?_⟩
      by_cases hpre:∀r∈pre,r.loud=true→E r.i=true
      · have hH:=p.atLoud e s.pref hgE.2.1 r4 hpre
        have hH':=p.nextLoud (E':=add E q.i) e s.pref hgE.2.1 r4 (add_same E q.i) (fun j hj=>add_ne E hj)
        have hI:=s.inv
        rw [hH]at hI
        have hqb:q.hb.base≤q.hb.bl.length:=(p.tr.pres hs hb).2 q hq
        have hpres:=(p.tr.recs q hq).2.pres hs hqb
        have step:∀(φ':Phi) (v':Value) (w':World),le φ1 φ'→VR φ' q.v v'→Inv (fun k=>K k∨∃r,IsFl recs (fun j=>listed.getD j false) E r∧Bf r.i=k) w φ' q.ha.bl w' →
            wpAnyIn F n P .any os Q fuel (listed.setIfInBounds q.i true) (a.put q.o.dst v') w':=by
          intro φ' v' w' hle hv hI'
          refine goOn _ _ φ' _ _ w' hle (s.next p e hg hgE (fun _=>hpre) d1 d2 hsh' hle hv (by rw [hH'];exact hI') (fun b ob h1 h2 h3=>?_)) (by rw [put_defers];exact hd.mono hle)
          rw [hH']at h1
          rw [hH]
          exact hpres.ro b ob h1 h2 h3
        rw [← aread_congr hev]at r2
        rw [← dloud_congr hev]at r3
        have hop:∀nx,aloud P (evalT T) q.hb q.o=some nx→aop P (evalT T) q.hb q.o=some nx:=fun nx hh=>by unfold aop;rw [r2];exact hh
        rcases dloud_nx r3 with h | ⟨f,args,h,hc⟩ | ⟨l,args,h,hc⟩
        · have ha:=hop _ h
          have hnd:∀c,q.o.op≠.defer c:=fun c hc=>by obtain ⟨d,hd⟩:=aop_defer hc ha;cases hd
          obtain ⟨_,φ',v',w',hr,hle,hv,hI'⟩:=aop_sound hN hqb hI (evs_t s.frame) ha
          rw [sem_plain (.inl hnd)]
          have hrest:=step φ' v' w' hle hv hI'
          rcases hr with hr | ⟨hr,rfl⟩
          · rw [hr];exact hrest
          · rw [hr];exact hrest
        · have ha:=hop _ h
          have hnd:∀c,q.o.op≠.defer c:=fun c hc=>by obtain ⟨d,hd⟩:=aop_defer hc ha;cases hd
          obtain ⟨_,args',hr,hargs⟩:=aop_sound hN hqb hI (evs_t s.frame) ha
          obtain ⟨hp1,hcc⟩:=hs _ _ hc hqb
          rw [sem_plain (.inl hnd),hr]
          refine ⟨hF.depth n,(hF.calls (hcc _ w φ1 w args' (n-1) hI hargs)).mono ?_⟩
          intro en w' hen
          cases en with
          | returned v' =>
            obtain ⟨φ',hle,hv,hI'⟩:=hen
            exact step φ' v' w' hle hv hI'
          | panicked ch=>exact hen.elim
          | outgrown=>exact hen.elim
        · have ha:=hop _ h
          have hnd:∀c,q.o.op≠.defer c:=fun c hc=>by obtain ⟨d,hd⟩:=aop_defer hc ha;cases hd
          obtain ⟨B,tb,args',hφ,hr,hargs⟩:=aop_sound hN hqb hI (evs_t s.frame) ha
          obtain ⟨hp1,hcc⟩:=hs _ _ hc hqb
          obtain ⟨fn,tm,as,bd,hy,hround⟩:=hcc _ w φ1 w args' B tb (n-1) hI hargs hφ
          rw [sem_plain (.inl hnd),hr,hy]
          refine ⟨hF.depth n,(hF.round hround).mono ?_⟩
          intro en w' hen
          cases en with
          | returned v' =>
            obtain ⟨φ',hle,hv,hI'⟩:=hen
            exact step φ' v' w' hle hv hI'
          | panicked ch=>exact hen.elim
          | outgrown=>exact hen.elim
      ·
        have hal:isAl q.o=true:=by
          cases hal:isAl q.o with
          | true=>rfl
          | false =>
            refine absurd (fun r hr hrl=>?_) hpre
            rcases p.two e (r:=r) (by rw [e];simp [hr]) with rfl | ⟨_,hp⟩ | ⟨hrp,_⟩
            · exact absurd rfl ((p.other e).1 r hr)
            · simp only [pairF,hrl,r4,hal,if_true,Bool.or_eq_true,beq_iff_eq,Bool.and_eq_true]at hp
              rcases hp with hp | hp
              · exact absurd hp ((p.other e).1 r hr)
              · have h2:=hp.2
                simp at h2
                have hpw:=p.pw
                rw [e,List.pairwise_append]at hpw
                have h3:=(hpw.2.2 r hr q (by simp)).2
                rcases not_unord (clo:=clo) (i:=r.i) (j:=q.i) (by rw [h2];rfl) with h4 | h4
                · rw [h3]at h4;cases h4
                · exact hgE.2.2 r.i h4
            · exact absurd rfl ((p.other e).2.2 r hr r hrp)
        obtain ⟨_,t,dd,z,hop,hdst,hz,hv,hha⟩:=al_rec (p.tr.recs q hq).2 r4 hal
        obtain ⟨hz1,hz2⟩:=run_zero hz w
        have hnd:∀c,q.o.op≠.defer c:=fun c hc=>by rw [hop]at hc;cases hc
        rw [sem_plain (.inl hnd)]
        have hrun:(execOp a.eval q.o).run P w=.ok (.value (.pointer (some ⟨w.heap.size,0,none⟩))) (w.alloc (.cells z.cells t)):=by
          simp only [execOp,hop,Instr.alloc,Sem.run_bind,hz1,Result.andThen_ok]
          rfl
        rw [hrun]
        have hlen:=s.len
        refine goOn _ _ φ1 _ _ _ (le_refl φ1) (s.float p e hg r4 hal d1 d2 hsh' hdst (by rw [hlen];exact hdl q hq r4 hal dd hdst) hv hha (C:=z.cells) (el:=t) fun ψ=>VR.cells (gA_refl hz2) (gA_notT hz2)) (by rw [put_defers];exact hd)
end
def lateGo (os:Array Oper):Nat→List Nat→List Nat→List Nat
  | 0,_,acc=>acc.reverse
  | n+1,left,acc =>
    match left.filter fun i=>(((os[i]?).map depsOf).getD []).all fun d=>!left.contains d with
    | []=>acc.reverse
    | r =>
      match r.find? fun i=>match os[i]? with | some o=>!isAl o | none=>true with
      | some i=>lateGo os n (left.erase i) (i::acc)
      | none=>(match r with | i::_=>lateGo os n (left.erase i) (i::acc) | []=>acc.reverse)
def late (os:Array Oper):List Nat:=lateGo os os.size (List.range os.size) []
def drawnF (P:Program)(self:Self)(_:Option Nat)(_:Nat)(os:Array Oper)(s:St):Option Out :=
  if planOk os (late os) (mkClo os (late os) (List.replicate os.size 0)) then
    match drun P self os (late os) s.t s.h with
    | some (recs,T,h)=>if fchk P os (mkClo os (late os) (List.replicate os.size 0)) recs&&(floatOk (mkClo os (late os) (List.replicate os.size 0)) [] recs&&recs.all fun r=>!(r.loud&&isAl r.o)||r.o.dst.all fun t=>decide (t<s.t.length))
      then some (.ex .normal { s with t:=T,h:=h }) else none
    | none=>none
  else none
theorem drawnF_ok {P:Program}(hN:NoNG P) (hm:P.follows .mixedOrders=true):DrawnOk P drawnF:=by
  intro self hs rd id os s o h
  unfold drawnF at h
  split at h
  case isFalse=>cases h
  rename_i hp
  split at h
  case h_2=>cases h
  rename_i recs T h1 hr
  split at h
  case isFalse=>cases h
  rename_i hc
  simp only [Option.some.injEq]at h
  subst h
  simp only [Bool.and_eq_true]at hc
  have p:=planF_of hp hr hc.1 hc.2.1
  have hdl:∀r∈recs,r.loud=true→isAl r.o=true→∀t,r.o.dst=some t→t<s.t.length:=by
    intro r hr hl ha t ht
    have:=hc.2.2
    rw [List.all_eq_true]at this
    have:=this r hr
    rw [hl,ha,ht]at this
    simpa using this
  intro hb
  refine ⟨(p.tr.pres hs hb).1,?_⟩
  intro K w0 φ w a F n hI ht hd hF
  refine wpIn_region_any hm ?_
  have h0:∀j,(Array.replicate os.size false).getD j false=false:=fun j=>by
    simp only [Array.getD_eq_getD_getElem?,Array.getElem?_replicate]
    split<;>rfl
  have hnf:∀r,¬IsFl recs (fun j=>(Array.replicate os.size false).getD j false) (fun _=>false) r:=fun r hr=>by have:=hr.2.2.2.1;simp only [h0]at this;cases this
  have hI':=hI.drew
  refine p.run hN hs hb hdl os.size _ (List.range os.size) (fun _=>false) (fun _=>0) φ s.t a _ (by simp) ?_ (by simp) ?_ hd hF (fun x a w' hc=>hc)
  · intro i hi _;exact List.mem_range.2 hi
  · refine ⟨fun i hi=>by (cases hi),fun r _ hD=>by (simp only [h0]at hD;cases hD),pw_all fun _ _ _ _ _ _ h=>by (cases h),fun j k hj=>by (simp only [h0]at hj;cases hj),rfl,fun t _=>?_,ht,?_,?_,fun r hr=>(hnf r hr).elim,fun r _ hr=>(hnf r hr).elim,fun r hr=>(hnf r hr).elim⟩
    · rw [TD_none _ fun r _=>rfl]
    · rw [HD_none _ fun r _ _=>rfl]
      refine hI'.rebase.weaken ?_
      rintro k (hk | ⟨r,hr,_⟩)
      · exact hk
      · exact (hnf r hr).elim
    · exact ⟨hI'.keep,hI'.klt,hI'.size,hI'.os,hI'.tape,hI'.output⟩
def floaty (os:Array Oper)(clo:List Nat):Bool :=
  (List.range os.size).any fun i=>match os[i]? with
    | some o=>isAl o&&(List.range os.size).any fun j=>match os[j]? with
      | some q=>!(i == j)&&(loudS q&&unord clo i j)
      | none=>false
    | none=>false
def pairFC (P:Program)(os:Array Oper)(clo:List Nat)(late:Bool)(r q:Rec)(k:Option Out):Option Out :=
  if r.i == q.i then k else
  if dstP os clo r q then
    if r.loud&&unord clo r.i q.i then
      if q.loud then (if isAl (if late then q.o else r.o) then k else none)
      else if memOp q.o.op&&wantedT os q.T q.o then sameC P q.T r.hb.bl q.o q.v (sameC P q.T r.ha.bl q.o q.v k)
      else k
    else k
  else none
theorem pairF_eq (P:Program)(os:Array Oper)(clo:List Nat)(late:Bool)(r q:Rec):pairF P os clo late r q=(r.i == q.i||(dstP os clo r q &&
   (!r.loud||(!q.loud||!unord clo r.i q.i||isAl (if late then q.o else r.o))&&(q.loud||!memOp q.o.op||!unord clo r.i q.i||!wantedT os q.T q.o||(same (aread P (evalT q.T) r.hb.bl q.o) q.v&&same (aread P (evalT q.T) r.ha.bl q.o) q.v))))):=rfl
theorem pairFC_ok {P:Program}{os:Array Oper}{clo:List Nat}{late:Bool}{r q:Rec}{k:Option Out}{x:Out}(h:pairFC P os clo late r q k=some x):pairF P os clo late r q=true∧k=some x:=by
  rw [pairF_eq]
  unfold pairFC at h
  generalize hal:isAl (if late then q.o else r.o)=al at h ⊢
  cases he:r.i == q.i with
  | true=>rw [he]at h;exact ⟨rfl,by simpa using h⟩
  | false =>
    rw [he]at h
    rw [Bool.false_or]
    cases hd:dstP os clo r q with
    | false=>rw [hd]at h;simp at h
    | true =>
      rw [hd]at h
      cases hl:r.loud with
      | false=>rw [hl]at h;exact ⟨rfl,by simpa using h⟩
      | true =>
        rw [hl]at h
        cases hu:unord clo r.i q.i with
        | false =>
          rw [hu]at h
          refine ⟨?_,by simpa using h⟩
          cases q.loud<;>simp
        | true =>
          rw [hu]at h
          cases hq:q.loud with
          | true =>
            rw [hq]at h
            cases al with
            | true=>exact ⟨rfl,by simpa using h⟩
            | false=>simp at h
          | false =>
            rw [hq]at h
            cases hm:memOp q.o.op with
            | false=>rw [hm]at h;exact ⟨rfl,by simpa using h⟩
            | true =>
              rw [hm]at h
              cases hw:wantedT os q.T q.o with
              | false=>rw [hw]at h;exact ⟨rfl,by simpa using h⟩
              | true =>
                rw [hw]at h
                simp only [Bool.and_self,if_true,Bool.false_eq_true,if_false]at h
                obtain ⟨s1,h2⟩:=sameC_ok h
                obtain ⟨s2,h3⟩:=sameC_ok h2
                rw [s1,s2]
                exact ⟨rfl,h3⟩
def rowFC (P:Program)(os:Array Oper)(clo:List Nat)(r:Rec):List Rec→Option Out→Option Out
  | [],k=>k
  | q::l,k=>pairFC P os clo true r q (pairFC P os clo false q r (rowFC P os clo r l k))
theorem rowFC_ok {P:Program}{os:Array Oper}{clo:List Nat}{r:Rec}:∀{l:List Rec}{k:Option Out}{x:Out},rowFC P os clo r l k=some x→(l.all fun q=>pairF P os clo true r q&&pairF P os clo false q r)=true∧k=some x
  | [],k,x,h=>⟨rfl,h⟩
  | q::l,k,x,h=>by
    obtain ⟨h1,h2⟩:=pairFC_ok (show pairFC P os clo true r q (pairFC P os clo false q r (rowFC P os clo r l k))=some x from h)
    obtain ⟨h3,h4⟩:=pairFC_ok h2
    obtain ⟨h5,h6⟩:=rowFC_ok h4
    exact ⟨by rw [List.all_cons,h1,h3,h5];rfl,h6⟩
def fchkC (P:Program)(os:Array Oper)(clo:List Nat):List Rec→Option Out→Option Out
  | [],k=>k
  | r::l,k=>rowFC P os clo r l (fchkC P os clo l k)
theorem fchkC_ok {P:Program}{os:Array Oper}{clo:List Nat}:∀{l:List Rec}{k:Option Out}{x:Out},fchkC P os clo l k=some x→fchk P os clo l=true∧k=some x
  | [],k,x,h=>⟨rfl,h⟩
  | r::l,k,x,h=>by
    obtain ⟨h1,h2⟩:=rowFC_ok (show rowFC P os clo r l (fchkC P os clo l k)=some x from h)
    obtain ⟨h3,h4⟩:=fchkC_ok h2
    exact ⟨by rw [fchk,h1,h3];rfl,h4⟩
def drawnX (P:Program)(self:Self)(rd:Option Nat)(id:Nat)(os:Array Oper)(s:St):Option Out :=
  match floaty os (mkClo os (Region.linearise .any os 0) (List.replicate os.size 0)) with
  | true=>drawnF P self rd id os s
  | false=>drawn P self rd id os s
theorem drawnX_ok {P:Program}(hN:NoNG P) (hm:P.follows .mixedOrders=true):DrawnOk P drawnX:=by
  intro self hs rd id os s o h
  unfold drawnX at h
  split at h
  · exact drawnF_ok hN hm self hs rd id os s o h
  · exact drawn_ok hN hm self hs rd id os s o h
section
variable {P:Program}{self:SelfC}{sd:Self}
def drawnFC (P:Program)(self:SelfC)(os:Array Oper)(s:St)(k:Ex→St→Option Out):Option Out :=
  if planOk os (late os) (mkClo os (late os) (List.replicate os.size 0)) then
    drunC P self os (late os) s.t s.h fun recs T h =>
      if floatOk (mkClo os (late os) (List.replicate os.size 0)) [] recs&&recs.all fun r=>!(r.loud&&isAl r.o)||r.o.dst.all fun t=>decide (t<s.t.length) then
        fchkC P os (mkClo os (late os) (List.replicate os.size 0)) recs (k .normal { t:=T,d:=s.d,h:=h })
      else none
  else none
theorem drawnFC_ok (hs:CpsOk self sd) {rd:Option Nat}{id:Nat}{os:Array Oper}{s:St}{k:Ex→St→Option Out}{r:Out}(hc:drawnFC P self os s k=some r) :
    ∃e s',drawnF P sd rd id os s=some (.ex e s')∧k e s'=some r:=by
  unfold drawnFC at hc
  unfold drawnF
  split at hc
  · rename_i hp
    rw [if_pos hp]
    obtain ⟨recs,T,h,h1,h2⟩:=drunC_ok hs hc
    rw [h1]
    split at h2
    · rename_i hf
      obtain ⟨h3,h4⟩:=fchkC_ok h2
      simp only
      rw [if_pos (by rw [h3,hf];rfl)]
      exact ⟨_,_,rfl,h4⟩
    · cases h2
  · cases hc
def drawnXC (P:Program)(self:SelfC)(os:Array Oper)(s:St)(k:Ex→St→Option Out):Option Out :=
  match floaty os (mkClo os (Region.linearise .any os 0) (List.replicate os.size 0)) with
  | true=>drawnFC P self os s k
  | false=>drawnC P self os s k
theorem drawnXC_ok (hs:CpsOk self sd) {rd:Option Nat}{id:Nat}{os:Array Oper}{s:St}{k:Ex→St→Option Out}{r:Out}(hc:drawnXC P self os s k=some r) :
    ∃e s',drawnX P sd rd id os s=some (.ex e s')∧k e s'=some r:=by
  unfold drawnXC at hc
  unfold drawnX
  split at hc
  · rename_i h
    exact drawnFC_ok hs hc
  · rename_i h
    exact drawnC_ok hs hc
end
def iterO (orc:Self)(drawn:Program→Self→Option Nat→Nat→Array Oper→St→Option Out)(P:Program):Nat→Self
  | 0=>orc
  | n+1=>fun t=>match orc t with
    | some o=>some o
    | none=>stepF drawn P (iterO orc drawn P n) t
theorem iterO_ok {P:Program}{orc:Self}{drawn:Program→Self→Option Nat→Nat→Array Oper→St→Option Out}(hN:NoNG P) (hdr:DrawnOk P drawn) (ho:SelfOk P orc) (hl:LoopOk P orc) :
    ∀n,SelfOk P (iterO orc drawn P n)∧LoopOk P (iterO orc drawn P n)
  | 0=>⟨ho,hl⟩
  | n+1=>by
    obtain ⟨h1,h2⟩:=iterO_ok hN hdr ho hl n
    constructor
    · intro t o h
      simp only [iterO]at h
      split at h
      · rename_i o' ho'
        cases h
        exact ho _ _ ho'
      · exact step_ok hN hdr h1 h2 t o h
    · intro rd c s e s' hc hb
      simp only [iterO]at hc
      split at hc
      · rename_i o' ho'
        cases hc
        exact hl _ _ _ _ _ ho' hb
      · obtain ⟨e1,s1,he,hh⟩:=loop_sound (drawn:=drawn) h1 h2 hc
        cases he
        exact (hh hb).2
def resC (P:Program)(H:List Ob)(t:List Value):List ResultVar→(List Value→Option Out)→Option Out
  | [],k=>k []
  | .tmp x::r,k=>headK (lget t x) fun v=>resC P H t r fun vs=>k (v::vs)
  | .cell a ty::r,k =>
    match symLoad P H ty (lget t a) with
    | some (b,v)=>cond b (headK v fun v=>resC P H t r fun vs=>k (v::vs)) none
    | none=>none
theorem resC_ok {P:Program}{H:List Ob}{t:List Value}:∀{rs:List ResultVar}{k:List Value→Option Out}{r:Out},resC P H t rs k=some r→∃vs,resL P H t.toArray rs=some vs∧k vs=some r
  | [],k,r,h=>⟨_,rfl,h⟩
  | .tmp x::l,k,r,h=>by
    simp only [resC,headK_eq]at h
    obtain ⟨vs,h1,h2⟩:=resC_ok h
    exact ⟨_,by simp only [resL,h1,Option.map_some,← lget_eq],h2⟩
  | .cell a ty::l,k,r,h=>by
    simp only [resC]at h
    split at h
    · rename_i b v hs
      obtain ⟨h1,h⟩:=cond_some h
      rw [headK_eq]at h
      obtain ⟨vs,h2,h3⟩:=resC_ok h
      exact ⟨_,by simp only [resL,← lget_eq,symLoad_ok hs h1,h2],h3⟩
    · cases h
def one (vs:List Value):Value:=match vs with | [v]=>v | vs=>.tuple ⟨vs⟩
def mapSc (n:Nat)(es:List (Value×Value)):Bool:=es.all fun e=>sc1 n e.2
def wrMK (bl:List Ob)(n:Nat):List Nat→Option Out→Option Out
  | [],y=>y
  | b::r,y =>
    match nthO bl b with
    | some (.map es)=>cond (mapSc n es) (wrMK bl n r y) none
    | some o=>if obSc n o then wrMK bl n r y else none
    | none=>none
theorem wrMK_ok {bl:List Ob}{n:Nat}{x:Out}:∀{l:List Nat}{y:Option Out},wrMK bl n l y=some x→(l.all fun b=>(bl[b]?).all (obSc n))=true∧y=some x
  | [],_,h=>⟨rfl,h⟩
  | b::r,y,h=>by
    simp only [wrMK]at h
    rw [nthO_eq]at h
    split at h
    · rename_i es he
      obtain ⟨h1,h2⟩:=cond_some h
      obtain ⟨h3,h4⟩:=wrMK_ok h2
      refine ⟨?_,h4⟩
      rw [List.all_cons,he,h3,Bool.and_true]
      exact h1
    · rename_i o _ ho
      split at h
      · rename_i h1
        obtain ⟨h3,h4⟩:=wrMK_ok h
        refine ⟨?_,h4⟩
        rw [List.all_cons,ho,h3,Bool.and_true]
        exact h1
      · cases h
    · cases h
def anyMap (bl:List Ob)(l:List Nat):Bool:=l.any fun b=>match nthO bl b with
  | some (.map _)=>true
  | _=>false
def exitK (h hf:Hp)(v:Value)(k:Hp→Option Out):Option Out :=
  if scT h.bl.length v&&hf.wr.isEmpty then k h
  else if anyMap hf.bl hf.wr then
    (if scT h.bl.length v then wrMK hf.bl h.bl.length hf.wr (heapK { bl:=hf.bl.take h.bl.length,base:=h.base,wr:=hf.wr.filter (fun b=>decide (b<h.base))++h.wr } k) else none)
  else heapK (exitH h hf v) k
theorem exitK_ok {h hf:Hp}{v:Value}{k:Hp→Option Out}{r:Out}(hx:exitK h hf v k=some r):k (exitH h hf v)=some r:=by
  unfold exitK at hx
  split at hx
  · rename_i hh;unfold exitH;rw [if_pos hh];exact hx
  · rename_i hh
    split at hx
    · split at hx
      · rename_i hv
        obtain ⟨h1,h2⟩:=wrMK_ok hx
        rw [heapK_eq]at h2
        unfold exitH
        rw [if_neg hh,if_pos (by rw [hv,h1];rfl)]
        exact h2
      · cases hx
    · rw [heapK_eq]at hx;exact hx
def leaveC (P:Program)(self:SelfC)(fn:Func)(t:List Value)(h:Hp):List Deferred→Mo→Hp→Kn→Option Out
  | [],.returning,hf,k=>resC P hf.bl t fn.results.toList fun vs=>headK (one vs) fun v=>exitK h hf v fun h=>k (.ret v h)
  | [],.panicking v false,hf,k=>headK v fun v=>exitK h hf v fun h=>k (.pan v h)
  | [],.panicking _ true,_,_=>none
  | d::ds,m,hf,k =>
    match d.target with
    | .collected r =>
      match nthO hf.bl r with
      | some (.dfr false)=>heapK (hf.put r (.dfr true)) fun hf=>leaveC P self fn t h ds m hf k
      | _=>none
    | .fn (.func g) cap =>
      if bodied P g then
        self (.dcall g (d.args++cap) m hf) fun
          | .dret m' h'=>leaveC P self fn t h ds (settleM m') h' k
          | _=>none
      else none
    | _=>none
theorem resB_one {P:Program}{H:List Ob}{fn:Func}{t:Array Value}{vs:List Value}(h:resL P H t fn.results.toList=some vs):resB P H fn t=some (one vs):=by
  unfold resB
  rw [h]
  cases vs with
  | nil=>rfl
  | cons v r=>cases r with
    | nil=>rfl
    | cons _ _=>rfl
section
variable {P:Program}{self:SelfC}{sd:Self}
theorem leaveC_ok (hs:CpsOk self sd) {fn:Func}{t:List Value}{h:Hp}:∀{ds:List Deferred}{m:Mo}{hf:Hp}{k:Kn}{r:Out},leaveC P self fn t h ds m hf k=some r →
    ∃o,leave P sd fn t h ds m hf=some o∧k o=some r
  | [],.returning,hf,k,r,hc=>by
    simp only [leaveC]at hc
    obtain ⟨vs,h1,h2⟩:=resC_ok hc
    rw [headK_eq]at h2
    exact ⟨_,by simp only [leave,resB_one h1,Option.map_some],exitK_ok h2⟩
  | [],.panicking v false,hf,k,r,hc=>by
    simp only [leaveC]at hc
    rw [headK_eq]at hc
    exact ⟨_,rfl,exitK_ok hc⟩
  | [],.panicking v true,hf,k,r,hc=>by cases hc
  | d::ds,m,hf,k,r,hc=>by
    simp only [leaveC]at hc
    simp only [leave]
    split at hc
    · rename_i x hx
      rw [hx]
      rw [nthO_eq]at hc
      simp only
      split at hc
      · rename_i hb
        rw [hb]
        rw [heapK_eq]at hc
        exact leaveC_ok hs hc
      · cases hc
    · rename_i g cap hx
      rw [hx]
      simp only
      split at hc
      · rename_i hb
        rw [if_pos hb]
        obtain ⟨o,h1,h2⟩:=hs _ _ _ hc
        rw [h1]
        cases o with
        | dret m' h'=>exact leaveC_ok hs h2
        | _=>cases h2
      · cases hc
    · cases hc
def endLoopC (self:SelfC)(rd:Option Nat)(L:Nat)(d:List Deferred)(t:List Value)(k:Kn):Kn
  | .ret _ h =>
    match nthO h.bl L with
    | some (.loop st pend t' ps a b D) =>
      match st with
      | .busy=>none
      | _ =>
      match pend with
      | none=>heapK (h.put L (.loop .exhausted none t' ps a b D)) fun h=>k (.ex .normal { t:=t,d:=d,h:=h })
      | some c=>heapK (h.put L (.loop .exhausted (some c) t' ps a b D)) fun h=>self (.code rd c { t:=t,d:=d,h:=h }) fun
        | .ex e s=>k (.ex e s)
        | _=>none
    | _=>none
  | _=>none
theorem endLoopC_ok (hs:CpsOk self sd) {rd:Option Nat}{L:Nat}{d:List Deferred}{t:List Value}{k:Kn}{o r:Out}(hc:endLoopC self rd L d t k o=some r):∃o',endLoop sd rd L d t (some o)=some o'∧k o'=some r:=by
  cases o with
  | ret v h =>
    simp only [endLoopC]at hc
    rw [nthO_eq]at hc
    simp only [endLoop]
    split at hc
    · rename_i st pend t' ps a b D hb
      rw [hb]
      simp only
      split at hc
      · cases hc
      · rename_i hst
        rw [if_neg hst]
        split at hc
        · rw [heapK_eq]at hc
          exact ⟨_,rfl,hc⟩
        · rw [heapK_eq]at hc
          obtain ⟨o',h1,h2⟩:=hs _ _ _ hc
          simp only
          rw [h1]
          cases o' with
          | ex e s=>exact ⟨_,rfl,h2⟩
          | _=>cases h2
    · cases hc
  | _=>cases hc
def pushK {β:Type}(h:Hp) (ob:Ob) (k:Hp→β):β:=heapK (h.push ob) k
theorem pushK_eq {β:Type}(h:Hp) (ob:Ob) (k:Hp→β):pushK h ob k=k (h.push ob):=heapK_eq _ _
def stepC (P:Program)(self:SelfC):SelfC
  | .code rd c s,k =>
    match c with
    | .skip | .label _=>k (.ex .normal s)
    | .exit id=>k (.ex (.exit id) s)
    | .goto l=>k (.ex (.goto l) s)
    | .ret=>k (.ex .ret s)
    | .seq a b=>self (.code rd a s) fun
      | .ex .normal s'=>self (.code rd b s') fun
        | .ex e s2=>k (.ex e s2)
        | _=>none
      | .ex e s'=>k (.ex e s')
      | _=>none
    | .cond c x y =>
      if okO c then match c with
        | .tmp d=>(match lget s.t d with
          | .bool b=>cond b (litK s.t d true fun t=>self (.code rd x { t:=t,d:=s.d,h:=s.h }) fun | .ex e s'=>k (.ex e s') | _=>none)
              (litK s.t d false fun t=>self (.code rd y { t:=t,d:=s.d,h:=s.h }) fun | .ex e s'=>k (.ex e s') | _=>none)
          | _=>none)
        | _=>(match evalT s.t c with
          | .bool b=>cond b (self (.code rd x s) fun | .ex e s'=>k (.ex e s') | _=>none) (self (.code rd y s) fun | .ex e s'=>k (.ex e s') | _=>none)
          | _=>none)
      else none
    | .block id c=>self (.code rd c s) fun
      | .ex (.exit id') s'=>if id'=id then k (.ex .normal s') else k (.ex (.exit id') s')
      | .ex e s'=>k (.ex e s')
      | _=>none
    | .loop c=>self (.code rd c s) fun
      | .ex .normal s'=>self (.code rd (.loop c) s') fun | .ex e s2=>k (.ex e s2) | _=>none
      | .ex e s'=>k (.ex e s')
      | _=>none
    | .region _ os dr=>(match dr with
      | true=>drawnXC P self os s fun e s'=>k (.ex e s')
      | false=>runOpsC P self rd os (List.range os.size) s fun e s'=>k (.ex e s'))
    | .rangeFunc g ps assign body =>
      if okO g then match evalT s.t g with
        | .func (.func f) first cap =>
          if bodied P f then
            match rd with
            | none=>pushK s.h (.dfr false) fun h1=>pushK h1 (loopNew s ps assign body s.h.bl.length) fun h2 =>
              headsK (first.toList++(.func (.yield (s.h.bl.length+1)) #[] #[]::cap.toList)) fun args =>
              self (.call f ⟨args⟩ h2) (endLoopC self none (s.h.bl.length+1) ({ target:=.collected s.h.bl.length,args:=#[] }::s.d) s.t k)
            | some l0=>match nthO s.h.bl l0 with
              | some (.loop _ _ _ _ _ _ D)=>pushK s.h (loopNew s ps assign body D) fun h2 =>
                headsK (first.toList++(.func (.yield s.h.bl.length) #[] #[]::cap.toList)) fun args =>
                self (.call f ⟨args⟩ h2) (endLoopC self (some l0) s.h.bl.length s.d s.t k)
              | _=>none
          else none
        | _=>none
      else none
    | _=>none
  | .call f args h,k =>
    match P.funcs[f]? with
    | some fn=>match fn.body with
      | some c=>headsK (frame fn args) fun t=>self (.code none c { t:=t,d:=[],h:=enterH h }) fun
        | .ex .normal s | .ex .ret s=>leaveC P self fn s.t h s.d .returning s.h k
        | .ex (.panic v) s=>leaveC P self fn s.t h s.d (.panicking v false) s.h k
        | _=>none
      | none=>none
    | none=>none
  | .round l args h,k =>
    match nthO h.bl l with
    | some (.loop .ready _ t ps assign body _) =>
      if args.size=ps.size then
        headsK ((ps.zip args).foldl (fun t (p,a)=>t.setIfInBounds p a) t).toList fun t =>
        self (.code (some l) assign { t:=t,d:=[],h:=h }) fun
        | .ex .normal s1=>(match nthO s1.h.bl l with
          | some (.loop .ready pend1 t1 ps1 a1 b1 D1) =>
            heapK (s1.h.put l (.loop .busy pend1 t1 ps1 a1 b1 D1)) fun h =>
            self (.code (some l) body { t:=s1.t,d:=s1.d,h:=h }) fun
            | .ex e s2=>(match jumpOf e,nthO s2.h.bl l with
              | some j,some (.loop _ _ t2 ps2 a2 b2 D2)=>heapK (s2.h.put l (.loop (if j.isNone then .ready else .done) j t2 ps2 a2 b2 D2)) fun h=>k (.ret (.bool j.isNone) h)
              | _,_=>none)
            | _=>none
          | _=>none)
        | _=>none
      else none
    | _=>none
  | _,_=>none
theorem code_ex (hs:CpsOk self sd) {rd:Option Nat}{c:Code}{s:St}{f:Ex→St→Option Out}{r:Out}(hc:self (.code rd c s) (fun | .ex e s'=>f e s' | _=>none)=some r) :
    ∃e s',sd (.code rd c s)=some (.ex e s')∧f e s'=some r:=by
  obtain ⟨o,h1,h2⟩:=hs _ _ _ hc
  cases o with
  | ex e s'=>exact ⟨e,s',h1,h2⟩
  | _=>cases h2
theorem stepC_code (hs:CpsOk self sd) {rd:Option Nat}{c:Code}{s:St}{k:Kn}{r:Out}(hc:stepC P self (.code rd c s) k=some r):∃o,stepF drawnX P sd (.code rd c s)=some o∧k o=some r:=by
  cases c with
  | skip=>exact ⟨_,rfl,hc⟩
  | label l=>exact ⟨_,rfl,hc⟩
  | exit id=>exact ⟨_,rfl,hc⟩
  | goto l=>exact ⟨_,rfl,hc⟩
  | ret=>exact ⟨_,rfl,hc⟩
  | seq a b =>
    simp only [stepC]at hc
    obtain ⟨o,h1,h2⟩:=hs _ _ _ hc
    simp only [stepF,h1]
    cases o with
    | ex e s' =>
      cases e with
      | normal =>
        obtain ⟨e,s2,h3,h4⟩:=code_ex hs h2
        simp only [h3]
        exact ⟨_,rfl,h4⟩
      | _=>exact ⟨_,rfl,h2⟩
    | _=>cases h2
  | cond c x y =>
    simp only [stepC]at hc
    split at hc
    · rename_i hk
      simp only [stepF,hk,if_true]
      split at hc
      · rename_i d
        split at hc
        · rename_i b hl
          have he:evalT s.t (.tmp d)=.bool b:=hl
          rw [he]
          cases b with
          | true =>
            rw [cond_true,litK_eq hl]at hc
            obtain ⟨e,s2,h3,h4⟩:=code_ex hs hc
            simp only [h3]
            exact ⟨_,rfl,h4⟩
          | false =>
            rw [cond_false,litK_eq hl]at hc
            obtain ⟨e,s2,h3,h4⟩:=code_ex hs hc
            simp only [h3]
            exact ⟨_,rfl,h4⟩
        · cases hc
      · split at hc
        · rename_i b he
          rw [he]
          cases b with
          | true =>
            rw [cond_true]at hc
            obtain ⟨e,s2,h3,h4⟩:=code_ex hs hc
            simp only [h3]
            exact ⟨_,rfl,h4⟩
          | false =>
            rw [cond_false]at hc
            obtain ⟨e,s2,h3,h4⟩:=code_ex hs hc
            simp only [h3]
            exact ⟨_,rfl,h4⟩
        · cases hc
    · cases hc
  | block id c =>
    simp only [stepC]at hc
    obtain ⟨o,h1,h2⟩:=hs _ _ _ hc
    simp only [stepF,h1]
    cases o with
    | ex e s' =>
      cases e with
      | exit id' =>
        simp only at h2 ⊢
        split at h2
        · rename_i he;rw [if_pos he];exact ⟨_,rfl,h2⟩
        · rename_i he;rw [if_neg he];exact ⟨_,rfl,h2⟩
      | _=>exact ⟨_,rfl,h2⟩
    | _=>cases h2
  | loop c =>
    simp only [stepC]at hc
    obtain ⟨o,h1,h2⟩:=hs _ _ _ hc
    simp only [stepF,h1]
    cases o with
    | ex e s' =>
      cases e with
      | normal =>
        obtain ⟨e,s2,h3,h4⟩:=code_ex hs h2
        simp only [h3]
        exact ⟨_,rfl,h4⟩
      | _=>exact ⟨_,rfl,h2⟩
    | _=>cases h2
  | region id os dr =>
    cases dr with
    | true =>
      obtain ⟨e,s',h1,h2⟩:=drawnXC_ok (rd:=rd) (id:=id) hs (k:=fun e s'=>k (.ex e s')) (show drawnXC P self os s (fun e s'=>k (.ex e s'))=some r from hc)
      exact ⟨_,by simpa only [stepF,if_true] using h1,h2⟩
    | false =>
      obtain ⟨e,s',h1,h2⟩:=runOpsC_ok hs (k:=fun e s'=>k (.ex e s')) (show runOpsC P self rd os (List.range os.size) s (fun e s'=>k (.ex e s'))=some r from hc)
      exact ⟨_,by simpa only [stepF,Bool.false_eq_true,if_false] using h1,h2⟩
  | rangeFunc g ps assign body =>
    simp only [stepC]at hc
    split at hc
    · rename_i hk
      simp only [stepF,hk,if_true]
      split at hc
      · rename_i f first cap hg
        rw [hg]
        simp only
        split at hc
        · rename_i hb
          rw [if_pos hb]
          split at hc
          · simp only [pushK_eq,headsK_eq]at hc
            obtain ⟨o,h1,h2⟩:=hs _ _ _ hc
            obtain ⟨o',h3,h4⟩:=endLoopC_ok hs h2
            refine ⟨o',?_,h4⟩
            simp only
            rw [← h3,← h1]
            congr 4
            apply Array.ext'
            simp
          · rename_i l0
            rw [nthO_eq]at hc
            split at hc
            · rename_i hl
              simp only [pushK_eq,headsK_eq]at hc
              obtain ⟨o,h1,h2⟩:=hs _ _ _ hc
              obtain ⟨o',h3,h4⟩:=endLoopC_ok hs h2
              refine ⟨o',?_,h4⟩
              simp only [hl]
              rw [← h3,← h1]
              congr 4
              apply Array.ext'
              simp
            · cases hc
        · cases hc
      · cases hc
    · cases hc
  | scope c=>cases hc
  | refuse w=>cases hc
theorem stepC_ok (hs:CpsOk self sd):CpsOk (stepC P self) (stepF drawnX P sd):=by
  intro t k r hc
  cases t with
  | code rd c s=>exact stepC_code hs hc
  | call f args h =>
    simp only [stepC]at hc
    simp only [stepF,forceL1_eq]
    split at hc
    · rename_i fn hf
      rw [hf]
      simp only
      split at hc
      · rename_i c hcb
        rw [hcb]
        simp only
        rw [headsK_eq]at hc
        obtain ⟨o,h1,h2⟩:=hs _ _ _ hc
        rw [h1]
        cases o with
        | ex e s =>
          cases e with
          | normal=>exact leaveC_ok hs h2
          | ret=>exact leaveC_ok hs h2
          | panic v=>exact leaveC_ok hs h2
          | _=>cases h2
        | _=>cases h2
      · cases hc
    · cases hc
  | dcall f args m h=>cases hc
  | round l args h =>
    simp only [stepC]at hc
    rw [nthO_eq]at hc
    simp only [stepF]
    split at hc
    · rename_i x t ps assign body D hl
      rw [hl]
      simp only
      split at hc
      · rename_i hz
        rw [if_pos hz]
        rw [headsK_eq]at hc
        obtain ⟨o,h1,h2⟩:=hs _ _ _ hc
        rw [h1]
        cases o with
        | ex e s1 =>
          cases e with
          | normal =>
            simp only at h2 ⊢
            rw [nthO_eq]at h2
            split at h2
            · rename_i pend1 t1 ps1 a1 b1 D1 hl1
              rw [hl1]
              simp only
              rw [heapK_eq]at h2
              obtain ⟨e,s2,h3,h4⟩:=code_ex hs h2
              rw [h3]
              simp only
              rw [nthO_eq]at h4
              split at h4
              · rename_i j q1 q2 t2 ps2 a2 b2 D2 hj hl2
                rw [hj,hl2]
                rw [heapK_eq]at h4
                exact ⟨_,rfl,h4⟩
              · cases h4
            · cases h2
          | _=>cases h2
        | _=>cases h2
      · cases hc
    · cases hc
def evC (P:Program)(oc:Task→Kn→Option (Option Out)):Nat→SelfC
  | 0,_,_=>none
  | n+1,t,k=>match oc t k with
    | some r=>r
    | none=>stepC P (evC P oc n) t k
def OcOk (oc:Task→Kn→Option (Option Out))(orc:Self):Prop :=
  (∀t k r,oc t k=some (some r)→∃o,orc t=some o∧k o=some r)∧(∀t k,oc t k=none→orc t=none)
theorem evC_ok {oc:Task→Kn→Option (Option Out)}{orc:Self}(ho:OcOk oc orc):∀n,CpsOk (evC P oc n) (iterO orc drawnX P n)
  | 0=>fun _ _ _ h=>by cases h
  | n+1=>by
    intro t k r h
    simp only [evC]at h
    simp only [iterO]
    split at h
    · rename_i r' hr
      subst h
      obtain ⟨o,h1,h2⟩:=ho.1 _ _ _ hr
      rw [h1];exact ⟨_,rfl,h2⟩
    · rename_i hr
      rw [ho.2 _ _ hr]
      exact stepC_ok (evC_ok ho n) t k r h
end
inductive AT where
  | leaf (o:Out)
  | no
  | br (b:Bool) (x y:AT)
def AT.run:AT→Kn→Option Out
  | .leaf o,k=>k o
  | .no,_=>none
  | .br b x y,k=>cond b (x.run k) (y.run k)
def AT.out:AT→Option Out
  | .leaf o=>some o
  | .no=>none
  | .br b x y=>cond b x.out y.out
theorem AT.run_some {k:Kn}{r:Out}:∀{a:AT},a.run k=some r→∃o,a.out=some o∧k o=some r
  | .leaf o,h=>⟨o,rfl,h⟩
  | .no,h=>nomatch h
  | .br b x y,h=>by
    cases b with
    | true=>exact AT.run_some (a:=x) h
    | false=>exact AT.run_some (a:=y) h
abbrev Ans:=Task→Option AT
def Ans.self (a:Ans):Self:=fun t=>match a t with
  | some x=>x.out
  | _=>none
def Ans.c (a:Ans):Task→Kn→Option (Option Out):=fun t k=>match a t with
  | some x=>some (x.run k)
  | none=>none
theorem Ans.oc (a:Ans):OcOk a.c a.self:=by
  constructor
  · intro t k r h
    unfold Ans.c at h
    unfold Ans.self
    split at h
    · rename_i x ha
      simp only [Option.some.injEq]at h
      rw [ha]
      exact AT.run_some h
    · cases h
  · intro t k h
    unfold Ans.c at h
    unfold Ans.self
    split at h
    · cases h
    · rename_i ha;rw [ha]
def LoopFact (P:Program):Task→Out→Prop
  | .code rd (.loop c) s,.ex e s'=>s.h.base≤s.h.bl.length →
    ∀(K:Nat→Prop) (w0:World) (φ:Phi) (w:World) (a:Act) (F:Fence) (n:Nat),Inv K w0 φ s.h.bl w→VRs φ s.t.toArray a.tmps→DRs φ s.d a.defers→FenceOk φ rd F→wpLoopIn F n P c (CodeR K w0 φ e s') a w
  | _,_=>True
def Fact (P:Program)(t:Task)(o:Out):Prop:=TaskOk P t o∧LoopFact P t o
def Known (P:Program)(a:Ans):Prop:=∀t x o,a t=some x→x.out=some o→Fact P t o
theorem Ans.self_iff {a:Ans}{t:Task}{o:Out}:a.self t=some o↔∃x,a t=some x∧x.out=some o:=by
  unfold Ans.self
  split
  · rename_i x h;rw [h];simp
  · rename_i h
    constructor
    · intro h';cases h'
    · rintro ⟨x,hx,_⟩;exact (h _ hx).elim
theorem Known.selfOk {P:Program}{a:Ans}(h:Known P a):SelfOk P a.self:=fun t o ht=>let ⟨x,h1,h2⟩:=Ans.self_iff.1 ht;(h t x o h1 h2).1
theorem Known.loopOk {P:Program}{a:Ans}(h:Known P a):LoopOk P a.self:=fun _ _ _ _ _ hc hb=>let ⟨x,h1,h2⟩:=Ans.self_iff.1 hc;(h _ x _ h1 h2).2 hb
theorem Known.nothing (P:Program):Known P (fun _=>none):=fun _ _ _ h=>nomatch h
def Ans.or (p a:Ans):Ans:=fun t=>match p t with
  | some r=>some r
  | none=>a t
theorem Known.or {P:Program}{p a:Ans}(hp:Known P p) (ha:Known P a):Known P (p.or a):=by
  intro t x o h
  unfold Ans.or at h
  split at h
  · rename_i r hr;rw [h]at hr;exact hp t x o hr
  · exact ha t x o h
section
variable {P:Program}(hN:NoNG P) (hm:P.follows .mixedOrders=true)
include hN hm
def evS (P:Program)(a:Ans)(n:Nat):SelfC:=stepC P (evC P a.c n)
theorem Known.step {a:Ans}(hk:Known P a) {n:Nat}{t:Task}{o:Out}(h:evS P a n t some=some o):Fact P t o:=by
  obtain ⟨o',h1,h2⟩:=stepC_ok (evC_ok (P:=P) a.oc n) t some o h
  cases h2
  have hd:DrawnOk P drawnX:=fun self hs rd id os s o h=>drawnX_ok hN hm self hs rd id os s o h
  have hh:=iterO_ok (drawn:=drawnX) hN hd hk.selfOk hk.loopOk n
  refine ⟨step_ok hN hd hh.1 hh.2 t _ h1,?_⟩
  unfold LoopFact
  split
  · obtain ⟨e1,s1,he,h3⟩:=loop_sound (drawn:=drawnX) hh.1 hh.2 h1
    cases he
    exact fun hb=>(h3 hb).2
  · trivial
end
def eqCode (c c':Code):Bool:=@decide (c=c') (Classical.propDecidable _)
theorem eqCode_self (c:Code):eqCode c c=true:=by simp [eqCode]
theorem eqCode_eq {c c':Code}(h:eqCode c c'=true):c=c':=by simpa [eqCode] using h
def junkFrom (j:List Value):Nat→Nat→List Value
  | 0,_=>[]
  | m+1,i=>lget j i::junkFrom j m (i+1)
def junkF (n:Nat)(j:List Value):List Value:=junkFrom j n 0
def lo (v:Value):Value:=match v with | .bool b=>.bool b | _=>undef
theorem cl_vr {φ ψ:Phi} {v v':Value}(h:VR φ v v'):VR ψ (lo v) v':=by
  cases h with
  | bool b=>exact .bool b
  | top _ hb=>exact .top _ hb
  | fz hf=>exact .top _ hf.notB
  | _=>exact .top _ rfl
theorem vr_undef {φ ψ:Phi} {v v':Value}(h:VR φ v v') (hn:notB v=true):VR ψ undef v':=by
  cases h with
  | bool b=>cases hn
  | top _ hb=>exact .top _ hb
  | fz hf=>exact .top _ hf.notB
  | _=>exact .top _ rfl
def SlotR (n:Nat)(v v0:Value):Prop:=v0=lo v∨(v0=undef∧notB v=true)∨(v0=v∧scT n v=true)
theorem SlotR.vr {φ:Phi}{n:Nat} {v v0 v':Value}(hs:SlotR n v v0) (h:VR φ v v'):VR (cut φ n) v0 v':=by
  rcases hs with rfl | ⟨rfl,hb⟩ | ⟨rfl,hsc⟩
  · exact cl_vr h
  · exact vr_undef h hb
  · exact scT_cut hsc h
inductive SlotRs (n:Nat):List Value→List Value→Prop
  | nil:SlotRs n [] []
  | cons {v v0:Value} {l l0:List Value} (h:SlotR n v v0) (r:SlotRs n l l0):SlotRs n (v::l) (v0::l0)
theorem SlotRs.get {n:Nat}{l l0:List Value}(h:SlotRs n l l0):∀i:Nat,OR (SlotR n) l[i]? l0[i]?:=by
  induction h with
  | nil=>intro i;simp;exact .none
  | cons h _ ih =>
    intro i
    cases i with
    | zero=>simp only [List.getElem?_cons_zero];exact .some h
    | succ i=>simp only [List.getElem?_cons_succ];exact ih i
theorem SlotRs.vrs {φ:Phi}{n:Nat}{l l0:List Value}{tm:Array Value}(hs:SlotRs n l l0) (h:VRs φ l.toArray tm):VRs (cut φ n) l0.toArray tm:=by
  intro i
  have h1:=hs.get i
  have h2:=h i
  rw [List.getElem?_toArray]at h2 ⊢
  generalize l[i]?=x at h1 h2
  generalize l0[i]?=y at h1 ⊢
  generalize tm[i]?=z at h2 ⊢
  cases h1 with
  | none=>cases h2;exact .none
  | some h1=>cases h2 with | some h2=>exact .some (h1.vr h2)
def noPanic:Ex→Bool
  | .panic _=>false
  | _=>true
theorem ExR.any {φ ψ:Phi}{e:Ex}{x:Exit}(h:ExR φ e x) (hn:noPanic e=true):ExR ψ e x:=by
  cases h with
  | normal=>exact .normal
  | exit id=>exact .exit id
  | goto l=>exact .goto l
  | ret=>exact .ret
  | panic h=>cases hn
def obKept (n:Nat) (ob ob':Ob):Bool:=(!ob'.live||ob.live)&&(!ob'.rw||ob.rw)&&obSc n ob'
inductive ObsKept (n:Nat):List Ob→List Ob→Prop
  | nil:ObsKept n [] []
  | cons {o o':Ob} {l l':List Ob} (h:obKept n o o'=true) (r:ObsKept n l l'):ObsKept n (o::l) (o'::l')
theorem ObsKept.len {n:Nat} {l l':List Ob}(h:ObsKept n l l'):l'.length=l.length:=by
  induction h with
  | nil=>rfl
  | cons _ _ ih=>simp [ih]
theorem ObsKept.get {n:Nat} {l l':List Ob}(h:ObsKept n l l'):∀{b:Nat} {ob':Ob},l'[b]?=some ob'→∃ob,l[b]?=some ob∧(ob'.live=true→ob.live=true)∧(ob'.rw=true→ob.rw=true)∧obSc n ob'=true:=by
  induction h with
  | nil=>intro b ob' h;simp at h
  | @cons o o' l l' h _ ih =>
    intro b ob' hb
    cases b with
    | zero =>
      simp only [List.getElem?_cons_zero,Option.some.injEq]at hb
      subst hb
      simp only [obKept,Bool.and_eq_true,Bool.or_eq_true,Bool.not_eq_true']at h
      refine ⟨o,rfl,fun hl=>?_,fun hr=>?_,h.2⟩
      · rcases h.1.1 with h1 | h1
        · rw [hl]at h1;cases h1
        · exact h1
      · rcases h.1.2 with h1 | h1
        · rw [hr]at h1;cases h1
        · exact h1
    | succ b =>
      simp only [List.getElem?_cons_succ]at hb ⊢
      exact ih hb
section
variable {P:Program}{K:Nat→Prop} {w0 w w':World} {φ φ':Phi}{H0 G H1 X:List Ob}
def RwAt (φ:Phi)(H:List Ob)(k:Nat):Prop:=∃(b:Nat) (ob:Ob) (x:Nat×Nat×Nat),H[b]?=some ob∧ob.rw=true∧φ b=some x∧x.1=k
theorem get_left {b:Nat}{ob:Ob}(h:H0[b]?=some ob):(H0++G)[b]?=some ob:=by
  rw [List.getElem?_append_left (List.getElem?_eq_some_iff.1 h).1];exact h
theorem Inv.narrow (hI:Inv K w0 φ (H0++G) w)(hsc:∀(b:Nat)(ob:Ob),H0[b]?=some ob→obSc H0.length ob=true) :
    Inv (fun k=>k<w.heap.size∧¬RwAt φ H0 k∧φ.z k=none) w (cut φ H0.length) H0 w:=by
  refine ⟨?_,?_,?_,fun _ _=>rfl,fun _ h=>h.1,Nat.le_refl _,rfl,rfl,rfl,fun b hb=>cut_ge hb,hI.frz,?_,fun k hk=>hk.2.2⟩
  · intro b ob hb hl
    obtain ⟨B,base,tot,h1,h2⟩:=hI.obs b ob (get_left hb) hl
    exact ⟨B,base,tot,(cut_lt (List.getElem?_eq_some_iff.1 hb).1).trans h1,obSc_cut (hsc b ob hb) h2⟩
  · intro b b' ob ob' x y hne hb hb' hrw hl hx hy
    rw [cut_lt (List.getElem?_eq_some_iff.1 hb).1]at hx
    rw [cut_lt (List.getElem?_eq_some_iff.1 hb').1]at hy
    exact hI.sep b b' ob ob' x y hne (get_left hb) (get_left hb') hrw hl hx hy
  · intro b ob x hb hrw hx hk
    rw [cut_lt (List.getElem?_eq_some_iff.1 hb).1]at hx
    exact hk.2.1 ⟨b,ob,x,hb,hrw,hx,rfl⟩
  · intro b ob x hb hrw hx
    rw [cut_lt (List.getElem?_eq_some_iff.1 hb).1]at hx
    exact hI.zsep b ob x (get_left hb) hrw hx
theorem Inv.widen (hI:Inv K w0 φ (H0++G) w)(hF:Inv (fun k=>k<w.heap.size∧¬RwAt φ H0 k∧φ.z k=none) w φ' (H1++X) w')(hle:le (cut φ H0.length) φ')(hk:ObsKept H0.length H0 H1) :
    ∃φ'',le φ φ''∧le (cut φ' H0.length) φ''∧Inv K w0 φ'' (H1++G) w':=by
  have hlen:=hk.len
  refine ⟨⟨fun b=>if b<H0.length then φ' b else φ b,φ'.z⟩,⟨?_,hle.zz⟩,⟨?_,fun _ _ h=>h⟩,?_⟩
  · intro b x hx
    show (if b<H0.length then φ' b else φ b)=some x
    split
    · rename_i hlt;exact hle b x ((cut_lt hlt).trans hx)
    · exact hx
  · intro b x hx
    show (if b<H0.length then φ' b else φ b)=some x
    split
    · rename_i hlt;rwa [cut_lt hlt]at hx
    · rename_i hge;rw [cut_ge (by omega)]at hx;cases hx
  have hφlt:∀{b:Nat},b<H0.length→(if b<H0.length then φ' b else φ b)=φ' b:=fun h=>if_pos h
  have hφge:∀{b:Nat},¬b<H0.length→(if b<H0.length then φ' b else φ b)=φ b:=fun h=>if_neg h
  have hleφ:le φ ⟨fun b=>if b<H0.length then φ' b else φ b,φ'.z⟩:=by
    refine ⟨?_,hle.zz⟩
    intro b x hx
    show (if b<H0.length then φ' b else φ b)=some x
    split
    · rename_i hlt;exact hle b x ((cut_lt hlt).trans hx)
    · exact hx
  have hlec:le (cut φ' H0.length) ⟨fun b=>if b<H0.length then φ' b else φ b,φ'.z⟩:=by
    refine ⟨?_,fun _ _ h=>h⟩
    intro b x hx
    show (if b<H0.length then φ' b else φ b)=some x
    split
    · rename_i hlt;rwa [cut_lt hlt]at hx
    · rename_i hge;rw [cut_ge (by omega)]at hx;cases hx
  have hcase:∀{b:Nat} {ob:Ob},(H1++G)[b]?=some ob→(b<H0.length∧H1[b]?=some ob)∨(¬b<H0.length∧(H0++G)[b]?=some ob):=by
    intro b ob hb
    by_cases hlt:b<H0.length
    · rw [List.getElem?_append_left (by omega)]at hb;exact .inl ⟨hlt,hb⟩
    · rw [List.getElem?_append_right (by omega)]at hb
      refine .inr ⟨hlt,?_⟩
      rw [List.getElem?_append_right (by omega),← hlen];exact hb
  have hold:∀k,k<w.heap.size→¬RwAt φ H0 k→w'.heap[k]?=w.heap[k]?:=fun k h1 h2=>by
    cases hz:φ.z k with
    | none=>exact hF.keep k ⟨h1,h2,hz⟩
    | some o=>rw [hI.frz k o hz,hF.frz k o (hle.zz k o hz)]
  have hwas:∀{b:Nat} {ob:Ob} {x:Nat×Nat×Nat},H1[b]?=some ob→ob.live=true→φ' b=some x→φ b=some x:=by
    intro b ob x hb hl hx
    obtain ⟨ob0,h0,hl0,_,_⟩:=hk.get hb
    obtain ⟨B,base,tot,h1,_⟩:=hI.obs b ob0 (get_left h0) (hl0 hl)
    have:=hle b _ ((cut_lt (List.getElem?_eq_some_iff.1 h0).1).trans h1)
    rw [hx]at this
    rw [h1,this]
  refine ⟨?_,?_,?_,?_,hI.klt,Nat.le_trans hI.size hF.size,hF.os.trans hI.os,hF.tape.trans hI.tape,hF.output.trans hI.output,?_,hF.frz,?_,?_⟩
  · intro b ob hb hl
    rcases hcase hb with ⟨hlt,h1⟩ | ⟨hge,h1⟩
    · obtain ⟨B,base,tot,h2,h3⟩:=hF.obs b ob (get_left h1) hl
      obtain ⟨_,_,_,_,hsc⟩:=hk.get h1
      exact ⟨B,base,tot,(hφlt hlt).trans h2,(obSc_cut hsc h3).keep hlec rfl⟩
    · obtain ⟨B,base,tot,h2,h3⟩:=hI.obs b ob h1 hl
      refine ⟨B,base,tot,(hφge hge).trans h2,h3.keep hleφ (hold B (h3.lt hl) ?_)⟩
      rintro ⟨b0,ob0,x,h4,h5,h6,h7⟩
      have hb0:=(List.getElem?_eq_some_iff.1 h4).1
      exact hI.sep b0 b ob0 ob x _ (by omega) (get_left h4) h1 h5 hl h6 h2 h7
  · intro b b' ob ob' x y hne hb hb' hrw hl hx hy
    rcases hcase hb with ⟨hlt,h1⟩ | ⟨hge,h1⟩
    · simp only [hφlt hlt]at hx
      obtain ⟨ob0,h0,_,hrw0,_⟩:=hk.get h1
      have hx0:=hwas h1 (Ob.live_of_rw hrw) hx
      rcases hcase hb' with ⟨hlt',h2⟩ | ⟨hge',h2⟩
      · simp only [hφlt hlt']at hy
        exact hF.sep b b' ob ob' x y hne (get_left h1) (get_left h2) hrw hl hx hy
      · simp only [hφge hge']at hy
        exact hI.sep b b' ob0 ob' x y hne (get_left h0) h2 (hrw0 hrw) hl hx0 hy
    · simp only [hφge hge]at hx
      rcases hcase hb' with ⟨hlt',h2⟩ | ⟨hge',h2⟩
      · simp only [hφlt hlt']at hy
        obtain ⟨ob0,h0,hl0,_,_⟩:=hk.get h2
        exact hI.sep b b' ob ob0 x y hne h1 (get_left h0) hrw (hl0 hl) hx (hwas h2 hl hy)
      · simp only [hφge hge']at hy
        exact hI.sep b b' ob ob' x y hne h1 h2 hrw hl hx hy
  · intro b ob x hb hrw hx
    rcases hcase hb with ⟨hlt,h1⟩ | ⟨hge,h1⟩
    · simp only [hφlt hlt]at hx
      obtain ⟨ob0,h0,_,hrw0,_⟩:=hk.get h1
      exact hI.prot b ob0 x (get_left h0) (hrw0 hrw) (hwas h1 (Ob.live_of_rw hrw) hx)
    · simp only [hφge hge]at hx
      exact hI.prot b ob x h1 hrw hx
  · intro k hkk
    have h1:=hI.klt k hkk
    have h2:=hI.size
    rw [hold k (by omega) ?_]
    · exact hI.keep k hkk
    · rintro ⟨b0,ob0,x,h4,h5,h6,h7⟩
      exact hI.prot b0 ob0 x (get_left h4) h5 h6 (h7 ▸ hkk)
  · intro b hb
    simp only [List.length_append]at hb
    have hge:¬b<H0.length:=by omega
    simp only [hφge hge]
    exact hI.top b (by simp only [List.length_append];omega)
  · intro b ob x hb hrw hx
    rcases hcase hb with ⟨hlt,h1⟩ | ⟨hge,h1⟩
    · simp only [hφlt hlt]at hx
      exact hF.zsep b ob x (get_left h1) hrw hx
    · simp only [hφge hge]at hx
      obtain ⟨B,base,tot,h2,h3⟩:=hI.obs b ob h1 (Ob.live_of_rw hrw)
      rw [h2]at hx;cases hx
      refine hF.zk B ⟨h3.lt (Ob.live_of_rw hrw),?_,hI.zsep b ob _ h1 hrw h2⟩
      rintro ⟨b0,ob0,y,h4,h5,h6,h7⟩
      have hb0:=(List.getElem?_eq_some_iff.1 h4).1
      exact hI.sep b0 b ob0 ob y _ (by omega) (get_left h4) h1 h5 (Ob.live_of_rw hrw) h6 h2 h7
  · intro k hkk
    have h1:=hI.klt k hkk
    have h2:=hI.size
    refine hF.zk k ⟨by omega,?_,hI.zk k hkk⟩
    rintro ⟨b0,ob0,x,h4,h5,h6,h7⟩
    exact hI.prot b0 ob0 x (get_left h4) h5 h6 (h7 ▸ hkk)
theorem Fact.forget {c:Code}{t t0 L T:List Value}{base base1:Nat}{wr wr1:List Nat}{e:Ex}
    (hf:Fact P (.code none c ⟨t0,[],⟨H0,base,wr⟩⟩) (.ex e ⟨L,[],⟨H1++X,base1,wr1⟩⟩)) (hb:base≤H0.length) (hk:ObsKept H0.length H0 H1) (hsc:(H0.all (obSc H0.length))=true)
    (ht:SlotRs H0.length t t0) (hT:SlotRs H0.length L T) (he:noPanic e=true) :
    Fact P (.code none c ⟨t,[],⟨H0++G,base,wr⟩⟩) (.ex e ⟨T,[],⟨H1++G,base,wr1⟩⟩):=by
  have hlen:=hk.len
  obtain ⟨hp,hh⟩:=hf.1 hb
  have hsc':∀(b:Nat) (ob:Ob),H0[b]?=some ob→obSc H0.length ob=true:=fun b ob hb=>by
    rw [List.all_eq_true]at hsc;exact hsc ob (List.mem_of_getElem? hb)
  have key:∀{K:Nat→Prop} {w0 w:World} {φ:Phi} {x:Exit} {a':Act} {w':World},Inv K w0 φ (H0++G) w→CodeR (fun k=>k<w.heap.size∧¬RwAt φ H0 k∧φ.z k=none) w (cut φ H0.length) e ⟨L,[],⟨H1++X,base1,wr1⟩⟩ x a' w' →
      CodeR K w0 φ e ⟨T,[],⟨H1++G,base,wr1⟩⟩ x a' w':=by
    rintro K w0 w φ x a' w' hI ⟨φ',hle,hx,ht',hd',hI'⟩
    obtain ⟨φ'',h1,h2,h3⟩:=hI.widen hI' hle hk
    refine ⟨φ'',h1,hx.any he,fun i=>(hT.vrs ht' i).mono fun _ _ h=>h.mono h2,?_,h3⟩
    have hd0:a'.defers=[]:=by
      have:DRs φ' [] a'.defers:=hd'
      generalize a'.defers=l at this
      cases this;rfl
    rw [hd0];exact .nil
  have dnil:∀{φ ψ:Phi} {l:List Deferred},DRs φ [] l→DRs ψ [] l:=fun h=>by cases h;exact .nil
  refine ⟨fun hb'=>⟨⟨rfl,?_,?_,?_⟩,?_⟩,?_⟩
  · show (H0++G).length≤(H1++G).length
    simp [hlen]
  · intro b hlt hn
    obtain ⟨h1,h2⟩:=hp.same b hlt hn
    refine ⟨h1,?_⟩
    have hlt':b<H0.length:=Nat.lt_of_lt_of_le hlt hb
    simp only at h2 ⊢
    rw [List.getElem?_append_left (by omega)]at h2 ⊢
    rw [List.getElem?_append_left hlt'];exact h2
  · intro b ob hx hl hr
    simp only at hx ⊢
    by_cases hlt:b<H0.length
    · rw [List.getElem?_append_left (by omega)]at hx
      exact get_left (hp.ro b ob (get_left hx) hl hr)
    · rw [List.getElem?_append_right (by omega)]at hx
      rw [List.getElem?_append_right (by omega),← hlen];exact hx
  · intro K w0 φ w a F n hI hta hd hF
    exact wpIn_mono (hh _ w (cut φ H0.length) w a F n (hI.narrow hsc') (ht.vrs hta) (dnil hd) hF) fun x a' w' h=>key hI h
  · cases c with
    | loop c =>
      intro hb' K w0 φ w a F n hI hta hd hF
      have hl:=hf.2 hb
      exact wpLoopIn_mono (hl _ w (cut φ H0.length) w a F n (hI.narrow hsc') (ht.vrs hta) (dnil hd) hF) fun x a' w' h=>key hI h
    | _=>trivial
end
def sets (t:List Value):List (Nat×Value)→List Value
  | []=>t
  | (k,v)::r=>sets (lset t k v) r
theorem slotRs_lo (n:Nat):∀L:List Value,SlotRs n L (L.map lo)
  | []=>.nil
  | _::L=>.cons (.inl rfl) (slotRs_lo n L)
theorem slotRs_set {n:Nat}{v:Value}(hv:scT n v=true):∀{L T:List Value},SlotRs n L T→∀k,L[k]?=some v→SlotRs n L (lset T k v)
  | _,_,.nil,k,h=>by simp at h
  | _,_,.cons (l:=L) (l0:=T) h r,0,hk=>by
    simp only [List.getElem?_cons_zero,Option.some.injEq]at hk
    subst hk
    exact .cons (.inr (.inr ⟨rfl,hv⟩)) r
  | _,_,.cons (l:=L) (l0:=T) h r,k+1,hk=>by
    simp only [List.getElem?_cons_succ]at hk
    exact .cons h (slotRs_set hv r k hk)
theorem slotRs_sets {n:Nat}{L:List Value}{known:List (Nat×Value)}:∀{T:List Value},SlotRs n L T→(∀kv∈known,L[kv.1]?=some kv.2∧scT n kv.2=true)→SlotRs n L (sets T known):=by
  induction known with
  | nil=>intro T h _;exact h
  | cons kv r ih =>
    intro T h hk
    have h1:=hk kv (List.mem_cons_self ..)
    exact ih (slotRs_set h1.2 h kv.1 h1.1) fun kv hm=>hk kv (List.mem_cons_of_mem _ hm)
theorem junkFrom_eq (j:List Value):∀(m i:Nat),i+m=j.length→junkFrom j m i=j.drop i
  | 0,i,h=>by simp only [junkFrom];rw [List.drop_eq_nil_of_le (by omega)]
  | m+1,i,h=>by
    simp only [junkFrom]
    rw [junkFrom_eq j m (i+1) (by omega),lget_eq,Array.getD_eq_getD_getElem?,List.getElem?_toArray,List.getElem?_eq_getElem (by omega)]
    simp only [Option.getD_some]
    exact (List.drop_eq_getElem_cons (by omega)).symm
theorem junkF_eq {n:Nat}{j:List Value}(h:j.length=n):junkF n j=j:=by
  unfold junkF
  rw [junkFrom_eq j n 0 (by omega)];rfl
theorem slotRs_known {n m:Nat}{L:List Value}{known:List (Nat×Value)}(hl:L.length=m) (hk:∀kv∈known,L[kv.1]?=some kv.2∧scT n kv.2=true):SlotRs n L (sets (junkF m (L.map lo)) known):=by
  rw [junkF_eq (by simpa using hl)]
  exact slotRs_sets (slotRs_lo n L) hk
def loopsIn:Code→List Code
  | .seq a b=>loopsIn a++loopsIn b
  | .cond _ a b=>loopsIn a++loopsIn b
  | .block _ c=>loopsIn c
  | .loop c=>c::loopsIn c
  | .rangeFunc _ _ a b=>loopsIn a++loopsIn b
  | _=>[]
def theLoop (P:Program)(f k:Nat):Code :=
  match P.funcs[f]? with
  | some fn=>(match fn.body with
    | some c=>(match (loopsIn c)[k]? with | some c=>c | none=>.skip)
    | none=>.skip)
  | none=>.skip
def firstReg:Code→Nat
  | .seq a _=>firstReg a
  | .block _ c=>firstReg c
  | .loop c=>firstReg c
  | .region id _ _=>id
  | _=>9999
def loopEnd (n:Nat)(e:Ex)(known:List (Nat×Value))(h:Hp)(j:List Value):AT:=.leaf (.ex e { t:=sets (junkF n j) known,d:=[],h:=h })
def sumK (n0 N:Nat)(pick:Ex→List Nat):Kn
  | .ex e s=>(match s.d with
    | []=>(match lenIs s.t N with
      | true=>some (.ex e { t:=(pick e).map (lget s.t),d:=[],h:={ bl:=s.h.bl.take n0,base:=N,wr:=s.h.wr } })
      | false=>none)
    | _=>none)
  | _=>none
def notU (v:Value):Bool:=match v with | .tuple _=>false | _=>true
theorem getElem_of_lget {L:List Value}{k:Nat}{v:Value}(h:lget L k=v) (hn:notU v=true):L[k]?=some v:=by
  rw [lget_eq,Array.getD_eq_getD_getElem?,List.getElem?_toArray]at h
  cases hc:L[k]? with
  | none=>rw [hc]at h;subst h;cases hn
  | some u=>rw [hc]at h;simp at h;rw [h]
theorem wrap64_id {x:Int}(h1:-9223372036854775808≤x) (h2:x<9223372036854775808):IntKind.i64.wrap x=x:=by
  unfold IntKind.wrap
  simp [IntKind.bits,IntKind.signed]
  split<;>omega
theorem zip_same {α:Type}{x y:α}:∀{l:List α},(x,y)∈l.zip l→x=y
  | [],h=>by simp at h
  | z::r,h=>by
    simp only [List.zip_cons_cons,List.mem_cons]at h
    rcases h with h | h
    · cases h;rfl
    · exact zip_same h
section
variable {P:Program}(hN:NoNG P) (hm:P.follows .mixedOrders=true)
include hN hm
end
def fz0:Value→Bool
  | .func (.via 0 ⟨[]⟩ 0 _) _ _=>true
  | v=>g0 v
def allFz (c:Array Value):Bool:=c.toList.all fz0
def frz1 (m z:Nat)(bl:List Ob)(v:Value)(k:Value→Option Out):Option Out :=
  match v with
  | .slice (some ⟨b,off,none⟩) len sz =>
    match Nat.ble m b,nthO bl b with
    | true,some (.cells c false)=>cond (allFz c&&decide (off+len*sz≤c.size)) (k (lstV c off len sz)) none
    | _,_=>none
  | .pointer (some ⟨b,off,none⟩) =>
    match Nat.ble m b,nthO bl b with
    | true,some (.cells c false)=>cond (allFz c) (k (dptV c off)) none
    | _,_=>none
  | .slice none 0 0=>k (lstV ⟨[]⟩ 0 0 z)
  | v=>if fz0 v then k v else none
def frzL (m z:Nat)(bl:List Ob):List Value→(List Value→Option Out)→Option Out
  | [],k=>k []
  | v::r,k=>frz1 m z bl v fun v=>frzL m z bl r fun r=>k (v::r)
def frzA (m z:Nat)(bl:List Ob)(v:Value)(k:Value→Option Out):Option Out :=
  match v with
  | .agg ⟨l⟩=>frzL m z bl l fun l=>k (.agg ⟨l⟩)
  | .iface t v=>if gA v then k (.iface t v) else none
  | .func (.func g) ⟨l⟩ ⟨n⟩=>frzL m z bl l fun l=>frzL m z bl n fun n=>k (.func (.func g) ⟨l⟩ ⟨n⟩)
  | v=>frz1 m z bl v k
def frzT (bl:List Ob):List Nat→List Value→(List Value→Option Out)→Option Out
  | _,[],k=>k []
  | zs,v::r,k=>frzA 0 (zs.headD 0) bl v fun v=>frzT bl zs.tail r fun r=>k (v::r)
def frzV (zs:List Nat)(bl:List Ob)(v:Value)(k:Value→Option Out):Option Out :=
  match v with
  | .tuple ⟨x::l⟩=>frzT bl zs (x::l) fun l=>k (.tuple ⟨l⟩)
  | v=>frzA 0 (zs.headD 0) bl v k
def frzK (zs:List Nat):Kn
  | .ret v h=>frzV zs h.bl v fun v=>some (.ret v ⟨[],0,[]⟩)
  | _=>none
structure Made (m:Nat) (z:Nat→Option Obj) (φ:Phi) (X:List Ob) (w:World):Prop where
  le:∀B o,φ.z B=some o→z B=some o
  obs:∀b c,X[b]?=some (.cells c false)→m≤b→∃B base tot C el fr,φ b=some (B,base,tot)∧z B=some (.cells C el fr)∧base+c.size≤C.size∧(∀(i:Nat) (v:Value),c[i]?=some v→∃v',C[base+i]?=some v'∧VR φ v v')
section
variable {K:Nat→Prop}{w0 w:World} {φ:Phi}{X:List Ob}{z:Nat→Option Obj}{m:Nat}
theorem fz0_fr (h:Made m z φ X w) {v v':Value}(hf:fz0 v=true) (hv:VR φ v v'):FR z v v':=by
  unfold fz0 at hf
  split at hf
  · cases hv with
    | fn hg=>cases hg
    | fz hh=>exact hh.mono h.le
  · rw [g0_eq hf hv];exact .gnd hf
theorem cells_fr (h:Made m z φ X w) {c C:Array Value}{base:Nat}(hc:allFz c=true) (h2:∀(i:Nat) (v:Value),c[i]?=some v→∃v',C[base+i]?=some v'∧VR φ v v') :
    ∀i,i<c.size→FR z (c.getD i undef) (C.getD (base+i) undef):=by
  intro i hi
  have h1:c[i]?=some c[i]:=Array.getElem?_eq_getElem hi
  obtain ⟨v',h3,h4⟩:=h2 i _ h1
  rw [Array.getD_eq_getD_getElem?,Array.getD_eq_getD_getElem?,h1,h3]
  unfold allFz at hc
  rw [List.all_eq_true]at hc
  exact fz0_fr h (hc _ (by rw [Array.mem_toList_iff];exact Array.mem_of_getElem? h1)) h4
theorem frz1_ok {y:Nat}(h:Made m z φ X w) {v v':Value}{k:Value→Option Out}{r:Out}(hk:frz1 m y X v k=some r) (hv:VR φ v v'):∃u,FR z u v'∧k u=some r:=by
  unfold frz1 at hk
  split at hk
  · rename_i b off len sz
    rw [nthO_eq]at hk
    split at hk
    · rename_i c hmb hb
      obtain ⟨h1,h2⟩:=cond_some hk
      simp only [Bool.and_eq_true,decide_eq_true_eq]at h1
      obtain ⟨B,base,tot,C,el,fr,h3,hz,h8,h6⟩:=h.obs b _ hb (Nat.le_of_ble_eq_true hmb)
      cases hv with
      | sliceZ _ a' k'=>exact ⟨_,.lstZ _ _ _ _,h2⟩
      | slice hφ hl hc =>
        rw [h3]at hφ;cases hφ
        exact ⟨_,.lst hz h8 (cells_fr h h1.1 h6) hl h1.2,h2⟩
    · cases hk
  · rename_i b off
    rw [nthO_eq]at hk
    split at hk
    · rename_i c hmb hb
      obtain ⟨h1,h2⟩:=cond_some hk
      obtain ⟨B,base,tot,C,el,fr,h3,hz,h8,h6⟩:=h.obs b _ hb (Nat.le_of_ble_eq_true hmb)
      cases hv with
      | ptr hφ =>
        rw [h3]at hφ;cases hφ
        exact ⟨_,.dpt hz h8 (cells_fr h h1 h6),h2⟩
    · cases hk
  · cases hv
    exact ⟨_,.lstZ _ _ _ _,hk⟩
  · split at hk
    · rename_i hf
      exact ⟨_,fz0_fr h hf hv,hk⟩
    · cases hk
inductive FRl (z:Nat→Option Obj):List Value→List Value→Prop
  | nil:FRl z [] []
  | cons {v v':Value} {l l':List Value} (h:FR z v v') (r:FRl z l l'):FRl z (v::l) (v'::l')
theorem FRl.agg {z:Nat→Option Obj} {l l':List Value}(h:FRl z l l'):l.length=l'.length∧∀i,FR z ((⟨l⟩:Array Value).getD i undef) ((⟨l'⟩:Array Value).getD i undef)∨l.length≤i:=by
  induction h with
  | nil=>exact ⟨rfl,fun i=>.inr (Nat.zero_le _)⟩
  | cons h _ ih =>
    refine ⟨by simp [ih.1],fun i=>?_⟩
    cases i with
    | zero=>exact .inl (by simpa [Array.getD_eq_getD_getElem?] using h)
    | succ i =>
      rcases ih.2 i with h1 | h1
      · exact .inl (by simpa [Array.getD_eq_getD_getElem?] using h1)
      · exact .inr (by simp;omega)
theorem FRl.fr {z:Nat→Option Obj} {l l':List Value}(h:FRl z l l'):FR z (.agg ⟨l⟩) (.agg ⟨l'⟩):=by
  refine .agg (by simpa using h.agg.1) fun i hi=>?_
  rcases h.agg.2 i with h1 | h1
  · exact h1
  · simp at hi;omega
theorem frzL_ok {y:Nat}(h:Made m z φ X w) {r:Out}:∀{l l':List Value}{k:List Value→Option Out},frzL m y X l k=some r→VRl φ l l'→∃u,FRl z u l'∧k u=some r
  | [],_,k,hk,hv=>by cases hv;exact ⟨[],.nil,hk⟩
  | v::l,_,k,hk,hv=>by
    cases hv with
    | cons hv hr =>
      obtain ⟨u,h1,h2⟩:=frz1_ok h hk hv
      obtain ⟨us,h3,h4⟩:=frzL_ok h h2 hr
      exact ⟨u::us,.cons h1 h3,h4⟩
theorem frzA_ok {ψ:Phi}{y:Nat}(h:Made m ψ.z φ X w) {v v':Value}{k:Value→Option Out}{r:Out}(hk:frzA m y X v k=some r) (hv:VR φ v v'):∃u,VR ψ u v'∧k u=some r:=by
  unfold frzA at hk
  split at hk
  · rename_i l
    obtain ⟨⟨ys⟩,rfl,hs⟩:=hv.agg_inv
    obtain ⟨us,h1,h2⟩:=frzL_ok h hk hs.toList
    exact ⟨_,h1.fr.vr,h2⟩
  · split at hk
    · rename_i hg
      cases hv with
      | iface _ hv=>rw [gA_eq hg hv];exact ⟨_,.iface _ (gA_refl hg),hk⟩
    · cases hk
  · rename_i g l n
    cases hv with
    | fn hg h1 h2 h3 h4 =>
      obtain ⟨us,k1,k2⟩:=frzL_ok h hk (VRs.toList (VRs.of h1 h2))
      obtain ⟨ws,k3,k4⟩:=frzL_ok h k2 (VRs.toList (VRs.of h3 h4))
      have hh:∀{us:List Value} {ys:Array Value},FRl ψ.z us ys.toList→(⟨us⟩:Array Value).size=ys.size∧∀i,i<(⟨us⟩:Array Value).size→FR ψ.z ((⟨us⟩:Array Value).getD i undef) (ys.getD i undef):=by
        intro us ys hf
        obtain ⟨ys⟩:=ys
        refine ⟨by simpa using hf.agg.1,fun i hi=>?_⟩
        rcases hf.agg.2 i with h5 | h5
        · exact h5
        · simp at hi;omega
      exact ⟨_,(FR.fn (hh k1).1 (hh k1).2 (hh k3).1 (hh k3).2).vr,k4⟩
  · obtain ⟨u,h1,h2⟩:=frz1_ok h hk hv
    exact ⟨u,h1.vr,h2⟩
theorem frzT_ok {ψ:Phi}(h:Made 0 ψ.z φ X w) {r:Out}:∀{zs:List Nat} {l l':List Value}{k:List Value→Option Out},frzT X zs l k=some r→VRl φ l l'→∃u,VRl ψ u l'∧k u=some r
  | _,[],_,k,hk,hv=>by cases hv;exact ⟨[],.nil,hk⟩
  | _,v::l,_,k,hk,hv=>by
    cases hv with
    | cons hv hr =>
      obtain ⟨u,h1,h2⟩:=frzA_ok h hk hv
      obtain ⟨us,h3,h4⟩:=frzT_ok h h2 hr
      exact ⟨u::us,.cons h1 h3,h4⟩
theorem VRl.vrs {l l':List Value}(h:VRl φ l l'):VRs φ ⟨l⟩ ⟨l'⟩:=by
  induction h with
  | nil=>exact VRs.nil φ
  | cons h _ ih =>
    intro i
    cases i with
    | zero=>simpa using OR.some h
    | succ i=>have:=ih i;simpa using this
theorem frzV_ok {ψ:Phi}{zs:List Nat}(h:Made 0 ψ.z φ X w) {v v':Value}{k:Value→Option Out}{r:Out}(hk:frzV zs X v k=some r) (hv:VR φ v v'):∃u,VR ψ u v'∧k u=some r:=by
  unfold frzV at hk
  split at hk
  · rename_i x l
    obtain ⟨⟨ys⟩,rfl,hs⟩:=hv.tuple_inv rfl
    obtain ⟨us,h1,h2⟩:=frzT_ok h hk hs.toList
    exact ⟨_,h1.vrs.tuple,h2⟩
  · exact frzA_ok h hk hv
open Classical in
def zF (φ:Phi)(X:List Ob)(m:Nat)(w:World):Nat→Option Obj:=fun B=>if ∃b ob x,m≤b∧X[b]?=some ob∧ob.rw=true∧φ b=some x∧x.1=B then w.heap[B]? else φ.z B
theorem zF_made (hF:Inv K w0 φ X w)(m:Nat):Made m (zF φ X m w) φ X w:=by
  refine ⟨fun B o hB=>?_,fun b c hb hmb=>?_⟩
  · unfold zF
    split
    · exact hF.frz B o hB
    · exact hB
  · obtain ⟨B,base,tot,h3,C,el,fr,h5,h6,h7⟩:=hF.obs b _ hb rfl
    obtain ⟨h8,h9,_⟩:=h7 rfl
    refine ⟨B,base,tot,C,el,fr,h3,?_,by omega,h6⟩
    unfold zF
    rw [if_pos ⟨b,_,_,hmb,hb,rfl,h3,rfl⟩];exact h5
theorem zF_k (hF:Inv K w0 φ X w)(m:Nat) {k:Nat}(hk:K k):zF φ X m w k=none:=by
  unfold zF
  rw [if_neg]
  · exact hF.zk k hk
  · rintro ⟨b,ob,x,_,h2,h3,h4,rfl⟩
    exact hF.prot b ob x h2 h3 h4 hk
theorem Inv.freeze (hF:Inv K w0 φ X w) {H1:List Ob}{k:Nat}(hH:∀(b:Nat) (ob:Ob),H1[b]?=some ob→X[b]?=some ob∧obSc H1.length ob=true) :
    Inv K w0 ⟨fun b=>if b<H1.length+k then φ b else none,zF φ X H1.length w⟩ (H1++List.replicate k .dead) w:=by
  have hm:=zF_made hF H1.length
  have hget:∀{b:Nat} {ob:Ob},(H1++List.replicate k .dead)[b]?=some ob→ob.live=true→b<H1.length∧X[b]?=some ob∧obSc H1.length ob=true:=by
    intro b ob hb hl
    rcases Nat.lt_or_ge b H1.length with h | h
    · rw [List.getElem?_append_left h]at hb
      exact ⟨h,hH b ob hb⟩
    · rw [List.getElem?_append_right h,List.getElem?_replicate]at hb
      split at hb
      · simp only [Option.some.injEq]at hb;subst hb;cases hl
      · cases hb
  have hlec:Gi.le (cut φ H1.length) ⟨fun b=>if b<H1.length+k then φ b else none,zF φ X H1.length w⟩:=by
    refine ⟨fun b x hx=>?_,hm.le⟩
    rcases Nat.lt_or_ge b H1.length with h | h
    · rw [cut_lt h]at hx
      show (if b<H1.length+k then φ b else none)=some x
      rw [if_pos (by omega)];exact hx
    · rw [cut_ge h]at hx;cases hx
  have hx:∀{b:Nat} {x:Nat×Nat×Nat},b<H1.length→(⟨fun b=>if b<H1.length+k then φ b else none,zF φ X H1.length w⟩:Phi) b=some x→φ b=some x:=by
    intro b x hb h
    have h':(if b<H1.length+k then φ b else none)=some x:=h
    rwa [if_pos (by omega)]at h'
  refine ⟨?_,?_,?_,hF.keep,hF.klt,hF.size,hF.os,hF.tape,hF.output,?_,?_,?_,fun k hk=>zF_k hF _ hk⟩
  · intro b ob hb hl
    obtain ⟨h1,h2,h3⟩:=hget hb hl
    obtain ⟨B,base,tot,h4,h5⟩:=hF.obs b ob h2 hl
    exact ⟨B,base,tot,hlec b _ ((cut_lt h1).trans h4),(obSc_cut h3 h5).keep hlec rfl⟩
  · intro b b' ob ob' x y hne hb hb' hrw hl hx1 hy1
    obtain ⟨h1,h2,_⟩:=hget hb (Ob.live_of_rw hrw)
    obtain ⟨h3,h4,_⟩:=hget hb' hl
    exact hF.sep b b' ob ob' x y hne h2 h4 hrw hl (hx h1 hx1) (hx h3 hy1)
  · intro b ob x hb hrw hx1
    obtain ⟨h1,h2,_⟩:=hget hb (Ob.live_of_rw hrw)
    exact hF.prot b ob x h2 hrw (hx h1 hx1)
  · intro b hb
    simp only [List.length_append,List.length_replicate]at hb
    show (if b<H1.length+k then φ b else none)=none
    rw [if_neg (by omega)]
  · intro B o hB
    have hB':zF φ X H1.length w B=some o:=hB
    unfold zF at hB'
    split at hB'
    · exact hB'
    · exact hF.frz B o hB'
  · intro b ob x hb hrw hx1
    obtain ⟨h1,h2,_⟩:=hget hb (Ob.live_of_rw hrw)
    have hx2:=hx h1 hx1
    show zF φ X H1.length w x.1=none
    unfold zF
    rw [if_neg]
    · exact hF.zsep b ob x h2 hrw hx2
    · rintro ⟨b',ob',x',k1,k2,k3,k4,k5⟩
      exact hF.sep b b' ob ob' x x' (by omega) h2 k2 hrw (Ob.live_of_rw k3) hx2 k4 k5.symm
end
section
variable {P:Program}
def pureA (v:Value):Bool:=scT 0 v
theorem Fact.lift {zs:List Nat}{f:FuncId}{args:Array Value}{v u:Value}{h1:Hp}(hf:Fact P (.call f args ⟨[],0,[]⟩) (.ret v h1)) (hfz:frzK zs (.ret v h1)=some (.ret u ⟨[],0,[]⟩))
    (ha:args.toList.all pureA=true) (h:Hp):Fact P (.call f args h) (.ret u h):=by
  obtain ⟨_,hh⟩:=hf.1 (Nat.le_refl _)
  refine ⟨fun hb=>⟨Pres.refl _,?_⟩,trivial⟩
  intro K w0 φ w args' n hI hA
  have hI':Inv K w0 φ ([]++h.bl) w:=hI
  have hN:=hI'.narrow (H0:=[]) (fun b ob h=>by simp at h)
  have hA1:VRs (cut φ ([]:List Ob).length) args args':=VRs.of hA.size fun i hi=>scT_cut (all_getD (p:=pureA) ha hi) (hA.getD i)
  refine (hh _ w _ w args' n hN hA1).mono ?_
  intro e w' he
  cases e with
  | returned v' =>
    obtain ⟨φ',hle,hv',hF⟩:=he
    have hfz':frzV zs h1.bl v (fun v=>some (.ret v ⟨[],0,[]⟩))=some (.ret u ⟨[],0,[]⟩):=hfz
    have hZ:=hF.freeze (H1:=[]) (k:=0) (fun b ob h=>by simp at h)
    obtain ⟨u',k1,k2⟩:=frzV_ok (ψ:=⟨fun b=>if b<([]:List Ob).length+0 then φ' b else none,zF φ' h1.bl 0 w'⟩) (zF_made hF 0) hfz' hv'
    simp only [Option.some.injEq,Out.ret.injEq,and_true]at k2
    subst k2
    have hle2:le (cut φ ([]:List Ob).length) ⟨fun b=>if b<([]:List Ob).length+0 then φ' b else none,zF φ' h1.bl 0 w'⟩:=by
      refine ⟨fun b x hx=>?_,fun B o hB=>(zF_made hF 0).le B o (hle.zz B o hB)⟩
      rw [cut_ge (show ([]:List Ob).length≤b from Nat.zero_le b)]at hx;cases hx
    obtain ⟨φ'',q1,q2,q3⟩:=hI'.widen (H1:=[]) (X:=[]) hZ hle2 .nil
    refine ⟨φ'',q1,?_,q3⟩
    have hc:cut ⟨fun b=>if b<([]:List Ob).length+0 then φ' b else none,zF φ' h1.bl ([]:List Ob).length w'⟩ ([]:List Ob).length=⟨fun b=>if b<([]:List Ob).length+0 then φ' b else none,zF φ' h1.bl 0 w'⟩:=by
      unfold cut
      simp
    rw [hc]at q2
    exact k1.mono q2
  | panicked ch=>exact he.elim
  | outgrown=>exact he.elim
def zAll (w:World):Phi:=⟨fun _=>none,fun B=>w.heap[B]?⟩
theorem inv_all (w:World):Inv (fun _=>False) w (zAll w) [] w :=
  ⟨fun b ob h=>by simp at h,fun b b' ob ob' x y _ h=>by simp at h,fun b ob x h=>by simp at h,fun _ h=>h.elim,fun _ h=>h.elim,Nat.le_refl _,rfl,rfl,rfl,fun _ _=>rfl,fun _ _ h=>h,fun b ob x h=>by simp at h,fun _ h=>h.elim⟩
theorem calls_frozen {w:World}{f:FuncId} {args args':Array Value}{v:Value} {h':Hp}(hf:Fact P (.call f args ⟨[],0,[]⟩) (.ret v h')) (hg:gr v=true) (hA:VRs (zAll w) args args') :
    Calls P f args' w fun e w'=>e=.returned v∧Below w.heap.size w w':=by
  obtain ⟨_,hh⟩:=hf.1 (Nat.le_refl _)
  refine callsIn_wide.1 ((hh _ w (zAll w) w args' 0 (inv_all w) hA).mono ?_)
  intro e w' he
  cases e with
  | returned v' =>
    obtain ⟨φ',hle,hv,hI⟩:=he
    refine ⟨by rw [gr_eq hg hv],hI.os,hI.tape,hI.output,hI.size,fun k hk=>?_⟩
    have h1:(zAll w).z k=some w.heap[k]:=by show w.heap[k]?=_;rw [Array.getElem?_eq_getElem hk]
    rw [hI.frz k _ (hle.zz k _ h1),Array.getElem?_eq_getElem hk]
  | panicked ch=>exact he.elim
  | outgrown=>exact he.elim
end
end
end Go.Gi
