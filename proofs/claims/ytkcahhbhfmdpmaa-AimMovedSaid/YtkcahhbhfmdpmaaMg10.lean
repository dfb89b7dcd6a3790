/- Part 10 of the texts below the claim. Conditions: none. -/
import Derived.Test.YtkcahhbhfmdpmaaMg9
import Derived.Test.YtkcahhbhfmdpmaaMg6
set_option linter.unusedVariables false
set_option linter.unusedSimpArgs false
namespace Go.Gi
open Go.RowKit
noncomputable section
def orO {α:Type}:Option α→Option α→Option α
 | some a,_=>some a
 | none,b=>b
theorem orO_eq {α:Type}{a b:Option α}{c:α}(h:orO a b=some c):a=some c∨b=some c:=by
 cases a with
 | none=>exact .inr h
 | some a=>exact .inl h
abbrev Own:=Option (Array Value×Nat)
def ownBs (o:List Own):List Ob:=o.map fun
 | none=>.dead
 | some (a,_)=>.cells a false
def ownVs:Nat→List Nat→List Own→List Value
 | b,z::zs,none::r=>.slice none 0 0::ownVs (b+1) zs r
 | b,z::zs,some (_,l)::r=>.slice (some ⟨b,0,none⟩) l z::ownVs (b+1) zs r
 | _,_,_=>[]
def ownP:List Own→List Ob
 | []=>[]
 | none::r=>ownP r
 | some (a,_)::r=>.cells a false::ownP r
def ownW:Nat→List Nat→List Own→List Value
 | b,z::zs,none::r=>.slice none 0 0::ownW b zs r
 | b,z::zs,some (_,l)::r=>.slice (some ⟨b,0,none⟩) l z::ownW (b+1) zs r
 | _,_,_=>[]
def ownI:Nat→List Own→List (Option Nat)
 | _,[]=>[]
 | b,none::r=>none::ownI b r
 | b,some _::r=>some b::ownI (b+1) r
theorem ownBs_len (o:List Own):(ownBs o).length=o.length:=by simp [ownBs]
theorem ownI_len:∀(b:Nat) (o:List Own),(ownI b o).length=o.length
 | _,[]=>rfl
 | b,none::r=>by simp [ownI,ownI_len b r]
 | b,some _::r=>by simp [ownI,ownI_len (b+1) r]
theorem ownVs_len:∀(b:Nat) (zs:List Nat)(o:List Own),zs.length=o.length→(ownVs b zs o).length=o.length
 | _,[],[],_=>rfl
 | b,z::zs,none::r,h=>by simp only[ownVs,List.length_cons];rw[ownVs_len (b+1) zs r (by simpa using h)]
 | b,z::zs,some (a,l)::r,h=>by simp only[ownVs,List.length_cons];rw[ownVs_len (b+1) zs r (by simpa using h)]
theorem ownVs_get:∀(b:Nat) (zs:List Nat)(o:List Own)(i:Nat),zs.length=o.length→(∀z,zs[i]?=some z→o[i]?=some none→(ownVs b zs o)[i]?=some (.slice none 0 0))∧(∀z a l,zs[i]?=some z→o[i]?=some (some (a,l))→(ownVs b zs o)[i]?=some (.slice (some ⟨b+i,0,none⟩) l z))
 | b,[],[],i,_=>⟨fun z h=>by simp at h,fun z a l h=>by simp at h⟩
 | b,z::zs,none::r,0,h=>⟨fun _ _ _=>rfl,fun _ _ _ _ h2=>by simp at h2⟩
 | b,z::zs,some (a,l)::r,0,h=>⟨fun _ _ h2=>by simp at h2,fun z' a' l' h1 h2=>by simp at h1 h2;obtain ⟨rfl,rfl⟩:=h2;subst h1;rfl⟩
 | b,z::zs,none::r,i+1,h=>by
  have:=ownVs_get (b+1) zs r i (by simpa using h)
  refine ⟨fun z' h1 h2=>?_,fun z' a' l' h1 h2=>?_⟩
  ·exact this.1 z' (by simpa using h1) (by simpa using h2)
  ·have e:=this.2 z' a' l' (by simpa using h1) (by simpa using h2)
   rw[show b+(i+1)=b+1+i by omega];exact e
 | b,z::zs,some (a,l)::r,i+1,h=>by
  have:=ownVs_get (b+1) zs r i (by simpa using h)
  refine ⟨fun z' h1 h2=>?_,fun z' a' l' h1 h2=>?_⟩
  ·exact this.1 z' (by simpa using h1) (by simpa using h2)
  ·have e:=this.2 z' a' l' (by simpa using h1) (by simpa using h2)
   rw[show b+(i+1)=b+1+i by omega];exact e
theorem ownVs_notU:∀(b:Nat) (zs:List Nat)(o:List Own),(ownVs b zs o).all notU=true
 | b,z::zs,none::r=>by simp only[ownVs,List.all_cons,ownVs_notU (b+1) zs r];rfl
 | b,z::zs,some (a,l)::r=>by simp only[ownVs,List.all_cons,ownVs_notU (b+1) zs r];rfl
 | _,[],_=>rfl
 | _,_::_,[]=>rfl
structure Turned (M N:Nat) (os szs:List Nat) (LL:List Value) (bl:List Ob) (bs:List (Option Nat)) (o:List Own):Prop where
 len:LL.length=N
 l1:os.length=o.length
 l2:bs.length=o.length
 l3:szs.length=o.length
 nil:∀(i s:Nat),os[i]?=some s→o[i]?=some none→bs[i]?=some none∧lget LL s=.slice none 0 0
 own:∀(i s:Nat) (a:Array Value) (l:Nat),os[i]?=some s→o[i]?=some (some (a,l))→∃b z,bs[i]?=some (some b)∧szs[i]?=some z∧lget LL s=.slice (some ⟨b,0,none⟩) l z∧M≤b∧bl[b]?=some (.cells a false)∧allFz a=true
 inj:∀(i i' b:Nat),bs[i]?=some (some b)→bs[i']?=some (some b)→i=i'
def turnT (φ φ0:Phi)(M nb:Nat)(bs:List (Option Nat)):Phi :=
 ⟨fun i=>if i<M then φ i else if i<M+nb then φ0 i else match bs[i-(M+nb)]? with | some (some b)=>φ b | _=>none,φ.z⟩
theorem turnT_lt {φ φ0:Phi}{M nb:Nat}{bs:List (Option Nat)}{i:Nat}(h:i<M):turnT φ φ0 M nb bs i=φ i:=if_pos h
theorem turnT_own {φ φ0:Phi}{M nb:Nat}{bs:List (Option Nat)}{i b:Nat}(h:bs[i]?=some (some b)):turnT φ φ0 M nb bs (M+nb+i)=φ b:=by
 show (if M+nb+i<M then _ else if M+nb+i<M+nb then _ else _)=_
 rw[if_neg (by omega),if_neg (by omega),show M+nb+i-(M+nb)=i by omega,h]
theorem turnT_top {φ φ0:Phi}{M nb:Nat}{bs:List (Option Nat)}{i:Nat}(h:M+nb+bs.length≤i):turnT φ φ0 M nb bs i=none:=by
 show (if i<M then _ else if i<M+nb then _ else _)=_
 rw[if_neg (by omega),if_neg (by omega),List.getElem?_eq_none (by omega)]
theorem turnT_le {φ φ0:Phi}{M nb:Nat}{bs:List (Option Nat)}(h1:∀i y,i<M→φ0 i=some y→φ i=some y) (h2:∀B o,φ0.z B=some o→φ.z B=some o) (h3:∀i,M+nb≤i→φ0 i=none):le φ0 (turnT φ φ0 M nb bs):=by
 refine ⟨fun i y hi=>?_,h2⟩
 show (if i<M then _ else if i<M+nb then _ else _)=_
 split
 ·rename_i h;exact h1 i y h hi
 ·split
  ·exact hi
  ·rw[h3 i (by omega)]at hi;cases hi
theorem turnT_cut {φ φ0:Phi}{M nb:Nat}{bs:List (Option Nat)}:le (cut φ M) (turnT φ φ0 M nb bs):=by
 refine ⟨fun i y hi=>?_,fun B o hB=>hB⟩
 rcases Nat.lt_or_ge i M with h | h
 ·rw[cut_lt h]at hi;rw[turnT_lt h];exact hi
 ·rw[cut_ge h]at hi;cases hi
theorem vrl_app {φ:Phi} {a a' b b':List Value}(h:VRl φ a a') (k:VRl φ b b'):VRl φ (a++b) (a'++b'):=by
 induction h with
 | nil=>exact k
 | cons h1 _ ih=>exact .cons h1 ih
theorem Turned.view {M N nb:Nat} {os szs S':List Nat}{LL:List Value}{bl H1:List Ob}{bs:List (Option Nat)}{o:List Own}{vs:List Value}
  (ht:Turned M N os szs LL bl bs o) (e1:bl.take M=H1) (hM:H1.length=M) (hbox:H1.all (boxD M)=true) (hvs:S'.map (lget LL)=vs) (hsc:vs.all (fun v=>notU v&&scT M v)=true)
  {K:Nat→Prop} {w0 w:World} {φ φ0:Phi} {tm:Array Value} (hF:Inv K w0 φ bl w) (hV:VRs φ LL.toArray tm)
  (h1:∀i y,i<M→φ0 i=some y→φ i=some y) (h2:∀B o,φ0.z B=some o→φ.z B=some o) (h3:∀i,M+nb≤i→φ0 i=none) :
  VRs (turnT φ φ0 M nb bs) (sets (junkF N (LL.map lo)) ((os++S').zip (ownVs (M+nb) szs o++vs))).toArray tm∧Inv K w0 (turnT φ φ0 M nb bs) (H1++List.replicate nb .dead++ownBs o) w:=by
 refine ⟨?_,?_⟩
 ·refine VRs.picks _ _ _ (VRs.lo ht.len hV) ?_ ?_
  ·rw[List.map_append]
   refine vrl_app ?_ ?_
   ·refine vrl_of fun i=>?_
    rw[List.getElem?_map]
    rcases Nat.lt_or_ge i o.length with hi | hi
    ·have hs:i<os.length:=by rw[ht.l1];exact hi
     have hz:i<szs.length:=by rw[ht.l3];exact hi
     rw[List.getElem?_eq_getElem hs]
     have hvi:=hV.getD os[i];rw[← lget_eq]at hvi
     show OR _ _ (some (tm.getD os[i] undef))
     generalize tm.getD os[i] undef=u at hvi ⊢
     cases ho:o[i] with
     | none =>
      have ho':o[i]?=some none:=by rw[List.getElem?_eq_getElem hi,ho]
      obtain ⟨_,q⟩:=ht.nil i os[i] (List.getElem?_eq_getElem hs) ho'
      rw[(ownVs_get (M+nb) szs o i ht.l3).1 szs[i] (List.getElem?_eq_getElem hz) ho']
      rw[q]at hvi
      exact .some (by cases hvi;exact .sliceN)
     | some al =>
      obtain ⟨a,l⟩:=al
      have ho':o[i]?=some (some (a,l)):=by rw[List.getElem?_eq_getElem hi,ho]
      obtain ⟨b,z,q1,q2,q3,_,_,_⟩:=ht.own i os[i] a l (List.getElem?_eq_getElem hs) ho'
      rw[(ownVs_get (M+nb) szs o i ht.l3).2 z a l q2 ho'];rw[q3]at hvi;have hp:=turnT_own (φ:=φ) (φ0:=φ0) (M:=M) (nb:=nb) q1
      refine .some ?_
      cases hvi with
      | sliceZ hp' a2 c2'=>exact .sliceZ (a:=⟨M+nb+i,0,none⟩) (hp.trans hp') a2 _
      | slice hp' hl' hc'=>exact .slice (hp.trans hp') hl' hc'
    ·rw[List.getElem?_eq_none (by rw[ownVs_len _ _ _ ht.l3];exact hi),List.getElem?_eq_none (by rw[ht.l1];exact hi)]
     exact .none
   ·rw[← hvs]
    refine vrl_of fun i=>?_
    rw[List.getElem?_map,List.getElem?_map]
    cases hi:S'[i]? with
    | none=>exact .none
    | some s =>
     refine .some ?_
     have hvi:=hV.getD s;rw[← lget_eq]at hvi;rw[List.all_eq_true]at hsc
     have:=hsc (lget LL s) (by rw[← hvs];exact List.mem_map_of_mem (List.mem_of_getElem? hi))
     rw[Bool.and_eq_true]at this;exact (scT_cut this.2 hvi).mono turnT_cut
  ·rw[List.all_append,ownVs_notU,Bool.true_and]
   rw[List.all_eq_true]at hsc ⊢;intro v hv;have:=hsc v hv;rw[Bool.and_eq_true]at this;exact this.1
 ·have hget:∀{i:Nat} {ob:Ob},(H1++List.replicate nb Ob.dead++ownBs o)[i]?=some ob→ob.live=true→(i<M∧H1[i]?=some ob)∨∃k a l,i=M+nb+k∧o[k]?=some (some (a,l))∧ob=.cells a false:=by
   intro i ob hi hl
   rcases get_app hi with ⟨_,h2⟩ | ⟨g1,h2⟩
   ·rcases get_app h2 with ⟨g3,h4⟩ | ⟨g3,h4⟩
    ·exact .inl ⟨by omega,h4⟩
    ·rw[List.getElem?_replicate]at h4
     split at h4
     ·simp only[Option.some.injEq]at h4;subst h4;cases hl
     ·cases h4
   ·rw[List.length_append,List.length_replicate,hM]at g1 h2
    unfold ownBs at h2
    rw[List.getElem?_map,Option.map_eq_some_iff]at h2
    obtain ⟨u,hu,e⟩:=h2
    cases u with
    | none=>subst e;cases hl
    | some al=>obtain ⟨a,l⟩:=al;exact .inr ⟨_,a,l,by omega,hu,e.symm⟩
  have hos:∀{k:Nat} {u:Own},o[k]?=some u→∃s,os[k]?=some s:=by
   intro k u hu
   have:k<o.length:=(List.getElem?_eq_some_iff.1 hu).1
   exact ⟨_,List.getElem?_eq_getElem (by rw[ht.l1];exact this)⟩
  have hκ:∀{k b:Nat},bs[k]?=some (some b)→(if M+nb+k<M then M+nb+k else match bs[M+nb+k-(M+nb)]? with | some (some b)=>b | _=>M+nb+k)=b:=by
   intro k b hb
   rw[if_neg (by omega),show M+nb+k-(M+nb)=k by omega,hb]
  have hback:∀{i:Nat} {ob:Ob},(H1++List.replicate nb Ob.dead++ownBs o)[i]?=some ob→ob.live=true→∃ob',bl[if i<M then i else match bs[i-(M+nb)]? with | some (some b)=>b | _=>i]?=some ob'∧ob'.live=true∧(ob.rw=true→ob'.rw=true)∧turnT φ φ0 M nb bs i=φ (if i<M then i else match bs[i-(M+nb)]? with | some (some b)=>b | _=>i)∧∀B base tot,ObR φ w ob' B base tot→ObR (turnT φ φ0 M nb bs) w ob B base tot:=by
   intro i ob hi hl
   rcases hget hi hl with ⟨hiM,h4⟩ | ⟨k,a,l,rfl,h4,rfl⟩
   ·rw[if_pos hiM]
    obtain ⟨_,k2⟩:=take_get e1 h4
    exact ⟨ob,k2,hl,fun h=>h,turnT_lt hiM,fun B base tot hr=>(obSc_cut (boxD_live (all_boxD hbox h4) hl).2 hr).keep turnT_cut rfl⟩
   ·obtain ⟨s,hs⟩:=hos h4
    obtain ⟨b,z,q1,q2,q3,q4,q5,q6⟩:=ht.own k s a l hs h4;rw[hκ q1]
    exact ⟨_,q5,rfl,fun _=>rfl,turnT_own q1,fun B base tot hr=>(obSc_cut (own_sc q6 M) hr).keep turnT_cut rfl⟩
  refine hF.view (κ:=fun i=>if i<M then i else match bs[i-(M+nb)]? with | some (some b)=>b | _=>i) (fun i ob hi hl=>hback hi hl) (fun i i' ob ob' hi hi' hl hl' he=>?_) (fun i hi=>?_) hF.frz (fun i ob y hi hrw hy=>?_) hF.zk
  ·rcases hget hi hl with ⟨hiM,_⟩ | ⟨k,a,l,rfl,h4,rfl⟩<;>rcases hget hi' hl' with ⟨hiM',_⟩ | ⟨k',a',l',rfl,h4',rfl⟩
   ·simp only[if_pos hiM,if_pos hiM']at he;exact he
   ·obtain ⟨s,hs⟩:=hos h4'
    obtain ⟨b,z,q1,q2,q3,q4,_⟩:=ht.own k' s a' l' hs h4';simp only[if_pos hiM]at he;rw[hκ q1]at he;omega
   ·obtain ⟨s,hs⟩:=hos h4
    obtain ⟨b,z,q1,q2,q3,q4,_⟩:=ht.own k s a l hs h4;simp only[if_pos hiM']at he;rw[hκ q1]at he;omega
   ·obtain ⟨s,hs⟩:=hos h4
    obtain ⟨b,z,q1,_⟩:=ht.own k s a l hs h4;obtain ⟨s',hs'⟩:=hos h4';obtain ⟨b',z',q1',_⟩:=ht.own k' s' a' l' hs' h4'
    have he2:b=b':=by
     have:=he;rw[hκ q1,hκ q1']at this;exact this
    subst he2;have:=ht.inj k k' b q1 q1'
    omega
  ·rw[List.length_append,List.length_append,hM,List.length_replicate,ownBs_len]at hi
   exact turnT_top (by rw[ht.l2];exact hi)
  ·obtain ⟨ob',k1,k2,k3,k5,_⟩:=hback hi (Ob.live_of_rw hrw)
   rw[k5]at hy;exact hF.zsep _ ob' y k1 (k3 hrw) hy
def ownK (M:Nat)(bl:List Ob)(LL:List Value):List Nat→List Nat→(List (Option Nat)→List Own→Option Out)→Option Out
 | s::r,z::zs,k=>(match lget LL s with
  | .slice none 0 0=>ownK M bl LL r zs fun bs o=>k (none::bs) (none::o)
  | .slice (some ⟨b,0,none⟩) l z'=>(match Nat.ble M b,Nat.beq z z',nthO bl b with
   | true,true,some (.cells a false)=>cond (allFz a) (ownK M bl LL r zs fun bs o=>k (some b::bs) (some (a,l)::o)) none
   | _,_,_=>none)
  | _=>none)
 | [],[],k=>k [] []
 | _,_,_=>none
def distB:List (Option Nat)→Bool
 | []=>true
 | none::r=>distB r
 | some b::r=>(r.all fun x=>match x with | some b'=>!(Nat.beq b b') | none=>true)&&distB r
theorem distB_ok:∀{bs:List (Option Nat)},distB bs=true→∀(i i' b:Nat),bs[i]?=some (some b)→bs[i']?=some (some b)→i=i'
 | [],_,i,i',b,h1,_=>by simp at h1
 | none::r,h,i,i',b,h1,h2=>by
  cases i with
  | zero=>simp at h1
  | succ i=>cases i' with
   | zero=>simp at h2
   | succ i'=>rw[distB_ok (bs:=r) h i i' b (by simpa using h1) (by simpa using h2)]
 | some c::r,h,i,i',b,h1,h2=>by
  unfold distB at h;rw[Bool.and_eq_true,List.all_eq_true]at h
  have no:∀k:Nat,r[k]?=some (some c)→False:=fun k hk=>by
   have:=h.1 _ (List.mem_of_getElem? hk)
   simp at this
  cases i with
  | zero =>
   simp only[List.getElem?_cons_zero,Option.some.injEq]at h1
   subst h1
   cases i' with
   | zero=>rfl
   | succ i'=>exact (no i' (by simpa using h2)).elim
  | succ i=>cases i' with
   | zero =>
    simp only[List.getElem?_cons_zero,Option.some.injEq]at h2
    subst h2
    exact (no i (by simpa using h1)).elim
   | succ i'=>rw[distB_ok (bs:=r) h.2 i i' b (by simpa using h1) (by simpa using h2)]
theorem ownK_ok {M:Nat}{bl:List Ob}{LL:List Value}:∀{os szs:List Nat}{k:List (Option Nat)→List Own→Option Out}{r:Out},ownK M bl LL os szs k=some r →
  ∃bs o,k bs o=some r∧os.length=o.length∧bs.length=o.length∧szs.length=o.length ∧
   (∀(i s:Nat),os[i]?=some s→o[i]?=some none→bs[i]?=some none∧lget LL s=.slice none 0 0) ∧
   (∀(i s:Nat) (a:Array Value) (l:Nat),os[i]?=some s→o[i]?=some (some (a,l))→∃b z,bs[i]?=some (some b)∧szs[i]?=some z∧lget LL s=.slice (some ⟨b,0,none⟩) l z∧M≤b∧bl[b]?=some (.cells a false)∧allFz a=true)
 | s::os,z::szs,k,r,h=>by
  unfold ownK at h
  split at h
  ·rename_i hv
   obtain ⟨bs,o,h1,h2,h3,h4,h5,h6⟩:=ownK_ok h
   refine ⟨none::bs,none::o,h1,by simp [h2],by simp [h3],by simp [h4],fun i s' hs ho=>?_,fun i s' a l hs ho=>?_⟩
   ·cases i with
    | zero=>simp only[List.getElem?_cons_zero,Option.some.injEq]at hs;subst hs;exact ⟨rfl,hv⟩
    | succ i=>exact h5 i s' (by simpa using hs) (by simpa using ho)
   ·cases i with
    | zero=>simp at ho
    | succ i=>exact h6 i s' a l (by simpa using hs) (by simpa using ho)
  ·rename_i b l z' hv
   split at h
   case h_2=>cases h
   rename_i a hMb hz hb;rw[nthO_eq]at hb;obtain ⟨ha,h⟩:=cond_some h;obtain ⟨bs,o,h1,h2,h3,h4,h5,h6⟩:=ownK_ok h;obtain rfl:=Nat.eq_of_beq_eq_true hz
   refine ⟨some b::bs,some (a,l)::o,h1,by simp [h2],by simp [h3],by simp [h4],fun i s' hs ho=>?_,fun i s' a' l' hs ho=>?_⟩
   ·cases i with
    | zero=>simp at ho
    | succ i=>exact h5 i s' (by simpa using hs) (by simpa using ho)
   ·cases i with
    | zero =>
     simp only[List.getElem?_cons_zero,Option.some.injEq,Prod.mk.injEq]at hs ho
     subst hs;obtain ⟨rfl,rfl⟩:=ho;exact ⟨b,z,rfl,rfl,hv,Nat.le_of_ble_eq_true hMb,hb,ha⟩
    | succ i=>exact h6 i s' a' l' (by simpa using hs) (by simpa using ho)
  ·cases h
 | [],[],k,r,h=>⟨[],[],h,rfl,rfl,rfl,fun i s hs=>by simp at hs,fun i s a l hs=>by simp at hs⟩
 | [],_::_,k,r,h=>by cases h
 | _::_,[],k,r,h=>by cases h
theorem own_eq:∀{b:Nat}{szs:List Nat} {o o':List Own},szs.length=o.length→szs.length=o'.length→ownVs b szs o=ownVs b szs o'→ownBs o=ownBs o'→o=o'
 | _,[],[],[],_,_,_,_=>rfl
 | b,z::zs,none::r,none::r',h1,h2,h3,h4=>by
  simp only[ownVs,List.cons.injEq,true_and]at h3
  rw[own_eq (b:=b+1) (szs:=zs) (by simpa using h1) (by simpa using h2) h3 (by simpa [ownBs] using h4)]
 | b,z::zs,some (a,l)::r,some (a',l')::r',h1,h2,h3,h4=>by
  simp only[ownVs,List.cons.injEq,Value.slice.injEq,true_and,and_true]at h3;simp only[ownBs,List.map_cons,List.cons.injEq,Ob.cells.injEq,and_true]at h4
  rw[own_eq (b:=b+1) (szs:=zs) (by simpa using h1) (by simpa using h2) h3.2 h4.2,h3.1,h4.1]
 | b,z::zs,none::r,some (a',l')::r',h1,h2,h3,h4=>by simp [ownVs]at h3
 | b,z::zs,some (a,l)::r,none::r',h1,h2,h3,h4=>by simp [ownVs]at h3
 | _,[],_::_,_,h1,_,_,_=>by simp at h1
 | _,[],[],_::_,_,h2,_,_=>by simp at h2
 | _,_::_,[],_,h1,_,_,_=>by simp at h1
 | _,_::_,_::_,[],_,h2,_,_=>by simp at h2
section
variable {X D:Type}
structure LoopT (X D:Type) where
 c:Code
 N:Nat
 M:Nat
 S:List Nat
 Bs:List Nat
 os:List Nat
 szs:List Nat
 sl:X→List Value
 hp:X→List Ob
 own:X→List Own
 ex:D→Ex
 pick:Ex→List Nat
 dv:D→List Value
 dh:D→List Ob
 od:D→List Own
def LoopT.H (L:LoopT X D)(x:X):List Ob:=L.hp x++ownBs (L.own x)
def LoopT.H0 (L:LoopT X D)(x:X):List Ob:=L.hp x++ownP (L.own x)
def LoopT.good (L:LoopT X D)(x:X):Prop:=gB L.Bs (L.hp x)=true∧∀a l,some (a,l)∈L.own x→allFz a=true
def LoopT.headT (L:LoopT X D)(x:X)(j:List Value):Task:=.code none L.c ⟨sets (junkF L.N j) ((L.os++L.S).zip (ownVs L.M L.szs (L.own x)++L.sl x)),[],⟨L.H x,0,[]⟩⟩
def LoopT.encT (L:LoopT X D):Sum X D→Out
 | .inl x=>.ex .normal ⟨ownVs L.M L.szs (L.own x)++L.sl x,[],⟨L.hp x++ownBs (L.own x),L.N,[]⟩⟩
 | .inr d=>.ex (L.ex d) ⟨ownVs L.M L.szs (L.od d)++L.dv d,[],⟨L.dh d++ownBs (L.od d),L.N,[]⟩⟩
def kT (N M:Nat)(S:List Nat)(pick:Ex→List Nat)(Bs os szs:List Nat):Kn
 | .ex e s=>match s.d,lenIs s.t N with
  | [],true=>ownK M s.h.bl s.t os szs fun bs o=>cond (distB bs) (gC (s.h.bl.take M) (some (.ex e ⟨ownVs M szs o++(match e with | .normal=>S | e=>pick e).map (lget s.t),[],⟨s.h.bl.take M++ownBs o,N,s.h.wr⟩⟩)) Bs) none
  | _,_=>none
 | _=>none
def LoopT.tailT (L:LoopT X D)(x:X)(d:D)(j:List Value)(b:Nat)(w:List Nat):Out :=
 .ex (L.ex d) ⟨sets (junkF L.N j) ((L.os++L.pick (L.ex d)).zip (ownVs (L.M+(ownP (L.own x)).length) L.szs (L.od d)++L.dv d)),[],⟨L.dh d++List.replicate (ownP (L.own x)).length .dead++ownBs (L.od d),b,w⟩⟩
structure LoopT.OkT (L:LoopT X D):Prop where
 s2:∀x,(L.sl x).all (fun v=>notU v&&scT L.M v)=true
 s1:∀x,(L.sl x).length=L.S.length
 h1:∀x,(L.hp x).length=L.M
 h2:∀x,gB L.Bs (L.hp x)=true→(L.hp x).all (boxD L.M)=true
 o1:∀x,(L.own x).length=L.os.length
 o2:L.szs.length=L.os.length
 o3:∀d,(L.od d).length=L.os.length
 d1:∀d,(L.dv d).all (fun v=>notU v&&scT L.M v)=true
 d2:∀d,(L.dh d).length=L.M
 d3:∀d,gB L.Bs (L.dh d)=true→(L.dh d).all (boxD L.M)=true
 e1:∀d,L.ex d≠.normal
 e2:∀d,noPanic (L.ex d)=true
theorem kT_turn {N M:Nat}{S:List Nat}{pick:Ex→List Nat}{Bs os szs:List Nat} {e e':Ex}{LL:List Value}{bl H1:List Ob} {b1 N':Nat} {wr wr':List Nat} {o':List Own}{vs:List Value}
  (h:kT N M S pick Bs os szs (.ex e ⟨LL,[],⟨bl,b1,wr⟩⟩)=some (.ex e' ⟨ownVs M szs o'++vs,[],⟨H1++ownBs o',N',wr'⟩⟩)) (hM:H1.length=M) (ho':o'.length=os.length) (hz:szs.length=os.length) :
  e=e'∧gB Bs H1=true∧bl.take M=H1∧(match e with | .normal=>S | e=>pick e).map (lget LL)=vs∧∃bs,Turned M N os szs LL bl bs o':=by
 unfold kT at h;simp only at h
 split at h
 case h_2=>cases h
 rename_i hlen;have k4:=lenIs_eq _ _ hlen;obtain ⟨bs,o,h1,h2,h3,h4,h5,h6⟩:=ownK_ok h;obtain ⟨hd,h1⟩:=cond_some h1;obtain ⟨g1,g2⟩:=gC_ok h1;simp only[Option.some.injEq,Out.ex.injEq,St.mk.injEq,Hp.mk.injEq,true_and]at g2;obtain ⟨q0,q1,q2,_⟩:=g2
 have hl2:(bl.take M).length=H1.length:=by
  have:=congrArg List.length q2;rw[List.length_append,List.length_append,ownBs_len,ownBs_len]at this
  omega
 obtain ⟨q3,q4⟩:=List.append_inj q2 hl2
 obtain ⟨q5,q6⟩:=List.append_inj q1 (by rw[ownVs_len _ _ _ h4,ownVs_len _ _ _ (by omega)];omega)
 obtain rfl:=own_eq h4 (by omega) q5 q4
 exact ⟨q0,by rw[← q3];exact g1,q3,q6,bs,⟨k4,h2,h3,h4,h5,h6,distB_ok hd⟩⟩
section
variable {P:Program}(hN:NoNG P) (hm:P.follows .mixedOrders=true)
include hN hm
theorem LoopT.sem {L:LoopT X D}(ok:L.OkT) {a:Ans}(hk:Known P a) {n:Nat}{rd:X→RT (Sum X D)}
  (hr:∀x j,L.good x→evC P a.c n (L.headT x j) (kT L.N L.M L.S L.pick L.Bs L.os L.szs)=(rd x).out L.encT):∀{m:Nat} {x:X} {d:D},loopV rd m x=some d→L.good x →
  ∀{t:List Value} {bl:List Ob} {bs:List (Option Nat)},Turned L.M L.N L.os L.szs t bl bs (L.own x)→bl.take L.M=L.hp x→L.S.map (lget t)=L.sl x→∃j,gB L.Bs (L.dh d)=true∧∀(K:Nat→Prop) (w0:World) (φ φ0:Phi) (w:World) (ac:Act) (F:Fence) (n:Nat) (nb:Nat),
   Inv K w0 φ bl w→VRs φ t.toArray ac.tmps→DRs φ [] ac.defers→FenceOk φ none F→(∀i y,i<L.M→φ0 i=some y→φ i=some y)→(∀B o,φ0.z B=some o→φ.z B=some o)→(∀i,L.M+nb≤i→φ0 i=none) →
   wpLoopIn F n P L.c (CodeR K w0 φ0 (L.ex d) ⟨sets (junkF L.N j) ((L.os++L.pick (L.ex d)).zip (ownVs (L.M+nb) L.szs (L.od d)++L.dv d)),[],⟨L.dh d++List.replicate nb .dead++ownBs (L.od d),0,[]⟩⟩) ac w
 | 0,_,_,h,_,_,_,_,_,_,_=>by cases h
 | m+1,x,d,h,hx,t,bl0,bs0,ht,hbl,hS=>by
  have hev:∀{y:Sum X D},(rd x).val=some y→∃e LL bl b1 wr,Fact P (L.headT x (t.map lo)) (.ex e ⟨LL,[],⟨bl,b1,wr⟩⟩)∧kT L.N L.M L.S L.pick L.Bs L.os L.szs (.ex e ⟨LL,[],⟨bl,b1,wr⟩⟩)=some (L.encT y):=by
   intro y hy;have h1:=hr x (t.map lo) hx;rw[RT.out_val,hy,Option.map_some]at h1;obtain ⟨o,h2,hf⟩:=hk.factK hN hm h1;have h3:=h2;unfold kT at h3
   split at h3
   case h_2=>cases h3
   rename_i e s
   split at h3
   case h_2=>cases h3
   rename_i hd _;obtain ⟨LL,d0,⟨bl,b1,wr1⟩⟩:=s;simp only at hd;subst hd;exact ⟨e,LL,bl,b1,wr1,hf,h2⟩
  have dnil:∀{φ ψ:Phi} {l:List Deferred},DRs φ [] l→DRs ψ [] l:=fun h=>by cases h;exact .nil
  have hst:∀{K:Nat→Prop} {w0 w:World} {φ:Phi} {tm:Array Value},Inv K w0 φ bl0 w→VRs φ t.toArray tm→VRs (turnT φ (cut φ L.M) L.M 0 bs0) (sets (junkF L.N (t.map lo)) ((L.os++L.S).zip (ownVs L.M L.szs (L.own x)++L.sl x))).toArray tm∧Inv K w0 (turnT φ (cut φ L.M) L.M 0 bs0) (L.H x) w:=by
   intro K w0 w φ tm hI hV
   have:=ht.view (nb:=0) (S':=L.S) hbl (ok.h1 x) (ok.h2 x hx.1) hS (ok.s2 x) hI hV (φ0:=cut φ L.M) (fun i y hi h0=>by rw[cut_lt hi]at h0;exact h0) (fun B o h0=>h0) (fun i hi=>cut_ge (by omega))
   simp only[Nat.add_zero,List.replicate_zero,List.append_nil]at this;exact this
  unfold loopV at h
  split at h
  ·rename_i y hy
   obtain ⟨e,LL,bl,b1,wr,hf,hks⟩:=hev hy;obtain ⟨rfl,hgy,hty,hsy,bs,htn⟩:=kT_turn hks (ok.h1 y) (ok.o1 y) ok.o2
   have hgood:L.good y:=⟨hgy,fun a l hal=>by
    obtain ⟨i,hi⟩:=List.mem_iff_getElem?.1 hal
    have hio:i<(L.own y).length:=(List.getElem?_eq_some_iff.1 hi).1
    obtain ⟨_,_,_,_,_,_,_,q⟩:=htn.own i _ a l (List.getElem?_eq_getElem (by rw[htn.l1];exact hio)) hi
    exact q⟩
   obtain ⟨j,hgd,hj⟩:=LoopT.sem ok hk hr h hgood htn hty hsy
   refine ⟨j,hgd,fun K w0 φ φ0 w ac F n nb hI hV hD hF ha hz htop=>?_⟩
   obtain ⟨_,hh⟩:=hf.1 (Nat.zero_le _);obtain ⟨hV1,hI1⟩:=hst hI hV
   refine rounds_of (wpIn_mono (hh K w0 _ w ac F n hI1 hV1 (dnil hD) hF) ?_)
   rintro x' a' w' ⟨φ',hle,hx',ht',hd',hI'⟩
   cases hx'
   show wpLoopIn F n P L.c _ a' w'
   refine hj K w0 φ' φ0 w' a' F n nb hI' ht' (dnil hd') hF (fun i y hi h0=>?_) (fun B o h0=>hle.zz B o (hz B o h0)) htop
   exact hle _ _ ((turnT_lt hi).trans (ha i y hi h0))
  ·rename_i d' hd
   simp only[Option.some.injEq]at h;subst h;obtain ⟨e,LL,bl,b1,wr,hf,hks⟩:=hev hd;obtain ⟨rfl,hgd,htd,hsd,bs,htn⟩:=kT_turn hks (ok.d2 d') (ok.o3 d') ok.o2;have hne:=ok.e1 d'
   have hsd2:(L.pick (L.ex d')).map (lget LL)=L.dv d':=by
    revert hsd hne
    generalize L.ex d'=q
    intro hsd hne
    cases q<;>first | exact absurd rfl hne | exact hsd
   refine ⟨LL.map lo,hgd,fun K w0 φ φ0 w ac F n nb hI hV hD hF ha hz htop=>?_⟩
   obtain ⟨_,hh⟩:=hf.1 (Nat.zero_le _);obtain ⟨hV1,hI1⟩:=hst hI hV
   refine rounds_of (wpIn_mono (hh K w0 _ w ac F n hI1 hV1 (dnil hD) hF) ?_)
   rintro x' a' w' ⟨φ',hle,hx',ht',hd',hI'⟩
   have c1:∀i y,i<L.M→φ0 i=some y→φ' i=some y:=fun i y hi h0=>hle _ _ ((turnT_lt hi).trans (ha i y hi h0))
   have c2:∀B o,φ0.z B=some o→φ'.z B=some o:=fun B o h0=>hle.zz B o (hz B o h0)
   obtain ⟨p2,p3⟩:=htn.view (nb:=nb) (S':=L.pick (L.ex d')) htd (ok.d2 d') (ok.d3 d' hgd) hsd2 (ok.d1 d') hI' ht' c1 c2 htop;have hc:CodeR K w0 φ0 (L.ex d') ⟨sets (junkF L.N (LL.map lo)) ((L.os++L.pick (L.ex d')).zip (ownVs (L.M+nb) L.szs (L.od d')++L.dv d')),[],⟨L.dh d'++List.replicate nb .dead++ownBs (L.od d'),0,[]⟩⟩ x' a' w':=⟨_,turnT_le c1 c2 htop,hx'.any (ok.e2 d'),p2,dnil hd',p3⟩
   revert hc
   generalize CodeR K w0 φ0 (L.ex d') ⟨sets (junkF L.N (LL.map lo)) ((L.os++L.pick (L.ex d')).zip (ownVs (L.M+nb) L.szs (L.od d')++L.dv d')),[],⟨L.dh d'++List.replicate nb .dead++ownBs (L.od d'),0,[]⟩⟩=Q
   intro hc
   generalize L.ex d'=q at hx' hne
   cases hx' with
   | normal=>exact absurd rfl hne
   | _=>exact hc
  ·cases h
omit hN hm in
theorem ownI_ge:∀(b:Nat) (o:List Own)(i c:Nat),(ownI b o)[i]?=some (some c)→b≤c
 | b,[],i,c,h=>by simp [ownI]at h
 | b,none::r,0,c,h=>by simp [ownI]at h
 | b,none::r,i+1,c,h=>ownI_ge b r i c (by simpa [ownI] using h)
 | b,some _::r,0,c,h=>by simp only[ownI,List.getElem?_cons_zero,Option.some.injEq]at h;omega
 | b,some _::r,i+1,c,h=>by have:=ownI_ge (b+1) r i c (by simpa [ownI] using h);omega
omit hN hm in
theorem ownI_inj:∀(b:Nat) (o:List Own) (i i' c:Nat),(ownI b o)[i]?=some (some c)→(ownI b o)[i']?=some (some c)→i=i'
 | b,[],i,i',c,h,_=>by simp [ownI]at h
 | b,none::r,i,i',c,h,h'=>by
  cases i with
  | zero=>simp [ownI]at h
  | succ i=>cases i' with
   | zero=>simp [ownI]at h'
   | succ i'=>rw[ownI_inj b r i i' c (by simpa [ownI] using h) (by simpa [ownI] using h')]
 | b,some _::r,i,i',c,h,h'=>by
  cases i with
  | zero =>
   simp only[ownI,List.getElem?_cons_zero,Option.some.injEq]at h
   cases i' with
   | zero=>rfl
   | succ i'=>have:=ownI_ge (b+1) r i' c (by simpa [ownI] using h');omega
  | succ i=>cases i' with
   | zero =>
    simp only[ownI,List.getElem?_cons_zero,Option.some.injEq]at h'
    have:=ownI_ge (b+1) r i c (by simpa [ownI] using h);omega
   | succ i'=>rw[ownI_inj (b+1) r i i' c (by simpa [ownI] using h) (by simpa [ownI] using h')]
omit hN hm in
theorem ownW_get:∀(b:Nat) (zs:List Nat)(o:List Own)(i:Nat),zs.length=o.length→(o[i]?=some none→(ownI b o)[i]?=some none∧(ownW b zs o)[i]?=some (.slice none 0 0)) ∧
  (∀a l,o[i]?=some (some (a,l))→∃c z,(ownI b o)[i]?=some (some c)∧zs[i]?=some z∧(ownW b zs o)[i]?=some (.slice (some ⟨c,0,none⟩) l z)∧b≤c∧(ownP o)[c-b]?=some (.cells a false))
 | b,[],[],i,_=>⟨fun h=>by simp at h,fun a l h=>by simp at h⟩
 | b,z::zs,none::r,0,h=>⟨fun _=>⟨rfl,rfl⟩,fun a l h2=>by simp at h2⟩
 | b,z::zs,some (a,l)::r,0,h=>⟨fun h2=>by simp at h2,fun a' l' h2=>by
  simp only[List.getElem?_cons_zero,Option.some.injEq,Prod.mk.injEq]at h2
  obtain ⟨rfl,rfl⟩:=h2
  exact ⟨b,z,rfl,rfl,rfl,Nat.le_refl _,by rw[Nat.sub_self];rfl⟩⟩
 | b,z::zs,none::r,i+1,h=>by
  have:=ownW_get b zs r i (by simpa using h)
  refine ⟨fun h2=>?_,fun a l h2=>?_⟩
  ·exact this.1 (by simpa using h2)
  ·exact this.2 a l (by simpa using h2)
 | b,z::zs,some (a0,l0)::r,i+1,h=>by
  have:=ownW_get (b+1) zs r i (by simpa using h)
  refine ⟨fun h2=>?_,fun a l h2=>?_⟩
  ·exact this.1 (by simpa using h2)
  ·obtain ⟨c,z',q1,q2,q3,q4,q5⟩:=this.2 a l (by simpa using h2)
   refine ⟨c,z',q1,q2,q3,by omega,?_⟩
   show ((Ob.cells a0 false)::ownP r)[c-b]?=_
   rw[show c-b=(c-(b+1))+1 by omega,List.getElem?_cons_succ]
   exact q5
omit hN hm in
theorem ownW_len:∀(b:Nat) (zs:List Nat)(o:List Own),zs.length=o.length→(ownW b zs o).length=o.length
 | _,[],[],_=>rfl
 | b,z::zs,none::r,h=>by simp only[ownW,List.length_cons];rw[ownW_len b zs r (by simpa using h)]
 | b,z::zs,some (a,l)::r,h=>by simp only[ownW,List.length_cons];rw[ownW_len (b+1) zs r (by simpa using h)]
omit hN hm in
theorem zip_all {T:List Value}:∀{S:List Nat}{vs:List Value},S.length=vs.length→(∀kv∈S.zip vs,lget T kv.1=kv.2)→S.map (lget T)=vs
 | [],[],_,_=>rfl
 | s::S,v::vs,hl,h=>by
  rw[List.map_cons,h (s,v) (by simp),zip_all (S:=S) (vs:=vs) (by simpa using hl) fun kv hkv=>h kv (by rw[List.zip_cons_cons];exact List.mem_cons_of_mem _ hkv)]
omit hN hm in
theorem LoopT.first {L:LoopT X D}(ok:L.OkT) {x:X}(hx:L.good x) {T:List Value}(hT:T.length=L.N) (hS:∀kv∈(L.os++L.S).zip (ownW L.M L.szs (L.own x)++L.sl x),lget T kv.1=kv.2) :
  Turned L.M L.N L.os L.szs T (L.H0 x) (ownI L.M (L.own x)) (L.own x)∧(L.H0 x).take L.M=L.hp x∧L.S.map (lget T)=L.sl x:=by
 have hz:L.szs.length=(L.own x).length:=by rw[ok.o2,ok.o1]
 have e:=zip_all (T:=T) (by rw[List.length_append,List.length_append,ownW_len _ _ _ hz,ok.o1,ok.s1]) hS
 rw[List.map_append]at e
 obtain ⟨e1,e2⟩:=List.append_inj e (by rw[List.length_map,ownW_len _ _ _ hz,ok.o1])
 have hsl:∀{i s:Nat},L.os[i]?=some s→(ownW L.M L.szs (L.own x))[i]?=some (lget T s):=by
  intro i s hs
  rw[← e1,List.getElem?_map,hs];rfl
 refine ⟨⟨hT,(ok.o1 x).symm,ownI_len _ _,hz,fun i s hs ho=>?_,fun i s a l hs ho=>?_,ownI_inj _ _⟩,by unfold LoopT.H0;rw[← ok.h1 x];exact List.take_left ..,e2⟩
 ·obtain ⟨q1,q2⟩:=(ownW_get L.M L.szs (L.own x) i hz).1 ho
  rw[hsl hs]at q2;exact ⟨q1,Option.some.inj q2⟩
 ·obtain ⟨c,z,q1,q2,q3,q4,q5⟩:=(ownW_get L.M L.szs (L.own x) i hz).2 a l ho
  rw[hsl hs]at q3
  refine ⟨c,z,q1,q2,Option.some.inj q3,q4,?_,hx.2 a l (List.mem_of_getElem? ho)⟩
  unfold LoopT.H0
  rw[List.getElem?_append_right (by rw[ok.h1];exact q4),ok.h1]
  exact q5
theorem LoopT.fact {L:LoopT X D}(ok:L.OkT) {a:Ans}(hk:Known P a) {n:Nat}{rd:X→RT (Sum X D)}
  (hr:∀x j,L.good x→evC P a.c n (L.headT x j) (kT L.N L.M L.S L.pick L.Bs L.os L.szs)=(rd x).out L.encT) {m:Nat} {x:X} {d:D} (h:loopV rd m x=some d) (hx:L.good x)
  {t:List Value} (ht:t.length=L.N) (hS:∀kv∈(L.os++L.S).zip (ownW L.M L.szs (L.own x)++L.sl x),lget t kv.1=kv.2):∃j,Fact P (.code none (.loop L.c) ⟨t,[],⟨L.H0 x,0,[]⟩⟩) (L.tailT x d j 0 []):=by
 obtain ⟨f1,f2,f3⟩:=LoopT.first ok hx ht hS;obtain ⟨j,hg,hj⟩:=LoopT.sem hN hm ok hk hr h hx f1 f2 f3
 have hlen:(L.H0 x).length=L.M+(ownP (L.own x)).length:=by unfold LoopT.H0;rw[List.length_append,ok.h1]
 have key:∀(K:Nat→Prop) (w0:World) (φ:Phi) (w:World) (ac:Act) (F:Fence) (n:Nat),Inv K w0 φ (L.H0 x) w→VRs φ t.toArray ac.tmps→DRs φ [] ac.defers→FenceOk φ none F →
   wpLoopIn F n P L.c (CodeR K w0 φ (L.ex d) ⟨sets (junkF L.N j) ((L.os++L.pick (L.ex d)).zip (ownVs (L.M+(ownP (L.own x)).length) L.szs (L.od d)++L.dv d)),[],⟨L.dh d++List.replicate (ownP (L.own x)).length .dead++ownBs (L.od d),0,[]⟩⟩) ac w:=fun K w0 φ w ac F n hI ht hd hF =>
  hj K w0 φ φ w ac F n (ownP (L.own x)).length hI ht hd hF (fun _ _ _ h=>h) (fun _ _ h=>h) fun i hi=>hI.top i (by rw[hlen];exact hi)
 refine ⟨j,fun _=>⟨⟨rfl,?_,fun b hb _=>absurd hb (Nat.not_lt_zero _),fun b ob hb hl hrw=>?_⟩,fun K w0 φ w ac F n hI ht hd hF=>wpIn_of_rounds (key K w0 φ w ac F n hI ht hd hF)⟩,fun _ K w0 φ w ac F n hI ht hd hF=>key K w0 φ w ac F n hI ht hd hF⟩
 ·show (L.H0 x).length≤(L.dh d++List.replicate (ownP (L.own x)).length Ob.dead++ownBs (L.od d)).length
  rw[hlen,List.length_append,List.length_append,ok.d2,List.length_replicate];exact Nat.le_add_right _ _
 ·exfalso
  rcases get_app hb with ⟨_,h2⟩ | ⟨_,h2⟩
  ·rcases get_app h2 with ⟨_,h2⟩ | ⟨_,h2⟩
   ·rw[(boxD_live (all_boxD (ok.d3 d hg) h2) hl).1]at hrw;cases hrw
   ·rw[List.getElem?_replicate]at h2
    split at h2
    ·simp only[Option.some.injEq]at h2;subst h2;cases hl
    ·cases h2
  ·unfold ownBs at h2
   rw[List.getElem?_map,Option.map_eq_some_iff]at h2
   obtain ⟨u,_,e⟩:=h2
   cases u with
   | none=>subst e;cases hl
   | some al=>subst e;cases hrw
theorem LoopT.known {L:LoopT X D}(ok:L.OkT) {a:Ans}(hk:Known P a) {n:Nat}{rd:X→RT (Sum X D)}
  (hr:∀x j,L.good x→evC P a.c n (L.headT x j) (kT L.N L.M L.S L.pick L.Bs L.os L.szs)=(rd x).out L.encT) {c0:Code} (bs:X→Nat) (ws:X→List Nat) (ws':X→List Nat) (hw:∀x,(bs x=0∧ws x=[]∧ws' x=[])∨ws' x=List.range (L.M+(ownP (L.own x)).length)++ws x) (dec:Task→Option (Code×X)) (alt:X→List Value→AT)
  (hd:∀t c x,dec t=some (c,x)→c=c0→∃T H',t=.code none (.loop L.c) ⟨T,[],⟨H',bs x,ws x⟩⟩∧Forgets H' (L.H0 x)∧T.length=L.N∧∀kv∈(L.os++L.S).zip (ownW L.M L.szs (L.own x)++L.sl x),lget T kv.1=kv.2)
  (ha:∀x j o,(alt x j).out=some o→L.good x∧∃d,loopR rd x=some d∧o=L.tailT x d j (bs x) (ws' x)) :
  ∃J:Task→List Value,Known P (loopAns c0 dec alt J):=by
 classical
 let good:Task→List Value→Prop:=fun t j=>∀c x d,dec t=some (c,x)→c=c0→L.good x→loopR rd x=some d→Fact P t (L.tailT x d j (bs x) (ws' x))
 have hex:∀t,∃j,good t j:=by
  intro t
  cases hdt:dec t with
  | none=>exact ⟨[],fun c x d h=>by rw[hdt]at h;cases h⟩
  | some cx =>
   obtain ⟨c,x⟩:=cx
   by_cases hc:c=c0
   ·by_cases hx:L.good x
    ·cases hl:loopR rd x with
     | none=>exact ⟨[],fun c' x' d h _ _ hr=>by rw[hdt]at h;cases h;rw[hl]at hr;cases hr⟩
     | some d =>
      obtain ⟨T,H',rfl,hg,hT,hS⟩:=hd t c x hdt hc;obtain ⟨m,hm'⟩:=loopR_some hl;obtain ⟨j,hj⟩:=LoopT.fact hN hm ok hk hr hm' hx hT hS
      refine ⟨j,fun c' x' d' h _ _ hr=>?_⟩
      rw[hdt]at h;cases h;rw[hl]at hr;cases hr
      rcases hw x with ⟨e1,e2,e3⟩ | e3
      ·rw[e1,e2,e3]
       exact hj.tells hg
      ·have:=Fact.rebase (b:=bs x) (w:=ws x) (hj.tells hg)
       have hlen:H'.length=L.M+(ownP (L.own x)).length:=by rw[hg.len];unfold LoopT.H0;rw[List.length_append,ok.h1]
       rw[hlen]at this;rw[e3];exact this
    ·exact ⟨[],fun c' x' d h _ h' _=>by rw[hdt]at h;cases h;exact absurd h' hx⟩
   ·exact ⟨[],fun c' x' d h h' _ _=>by rw[hdt]at h;cases h;exact absurd h' hc⟩
 refine ⟨fun t=>Classical.choose (hex t),?_⟩
 intro t at' o ht ho
 cases hdt:dec t with
 | none=>simp only[loopAns,hdt]at ht;cases ht
 | some cx =>
  obtain ⟨c,x⟩:=cx;simp only[loopAns,hdt,Option.some.injEq]at ht;subst ht;simp only[AT.out]at ho;obtain ⟨h1,h2⟩:=cond_some ho;obtain ⟨hx,d,h3,rfl⟩:=ha x _ o h2;exact Classical.choose_spec (hex t) c x d hdt (eqCode_eq h1) hx h3
end
end
def dI (q:IntKind)(v:Value):Option Int:=match v with
 | .int q' n=>(match decide (q'=q) with | true=>some n | false=>none)
 | _=>none
theorem dI_eq {q:IntKind}{v:Value}{n:Int}(h:dI q v=some n):v=.int q n:=by
 unfold dI at h
 split at h
 ·split at h
  ·rename_i hq
   simp only[Option.some.injEq]at h;rw[h,of_decide_eq_true hq]
  ·cases h
 ·cases h
def dBo (v:Value):Option Bool:=match v with
 | .bool b=>some b
 | _=>none
theorem dBo_eq {v:Value}{n:Bool}(h:dBo v=some n):v=.bool n:=by
 unfold dBo at h
 split at h
 ·simp only[Option.some.injEq]at h;rw[h]
 ·cases h
def dLs (z:Nat)(v:Value):Option (Array Value×Nat×Nat):=match v with
 | .func (.via 0 ⟨[]⟩ 0 true) c ⟨[.slice (some ⟨0,o,none⟩) n z']⟩=>(match Nat.beq z' z with | true=>some (c,o,n) | false=>none)
 | _=>none
theorem dLs_eq {z:Nat}{v:Value}{p:Array Value×Nat×Nat}(h:dLs z v=some p):v=lstV p.1 p.2.1 p.2.2 z:=by
 unfold dLs at h
 split at h
 ·split at h
  ·rename_i hz
   simp only[Option.some.injEq]at h;subst h;rw[Nat.eq_of_beq_eq_true hz]
  ·cases h
 ·cases h
theorem biI {β:Type}{q:IntKind}{v:Value}{f:Int→Option β}{r:β}(h:(dI q v).bind f=some r):∃n,v=.int q n∧f n=some r:=by
 obtain ⟨n,h1,h2⟩:=Option.bind_eq_some_iff.1 h;exact ⟨n,dI_eq h1,h2⟩
theorem biL {β:Type}{z:Nat}{v:Value}{f:Array Value×Nat×Nat→Option β}{r:β}(h:(dLs z v).bind f=some r):∃p,v=lstV p.1 p.2.1 p.2.2 z∧f p=some r:=by
 obtain ⟨n,h1,h2⟩:=Option.bind_eq_some_iff.1 h;exact ⟨n,dLs_eq h1,h2⟩
def dAg (v:Value):Option (List Value):=match v with
 | .agg ⟨l⟩=>some l
 | _=>none
theorem dAg_eq {v:Value}{l:List Value}(h:dAg v=some l):v=.agg ⟨l⟩:=by
 unfold dAg at h
 split at h
 ·simp only[Option.some.injEq]at h;rw[h]
 ·cases h
def dPt (b off:Nat)(v:Value):Option Unit:=match v with
 | .pointer (some ⟨b',off',none⟩)=>(match Nat.beq b' b,Nat.beq off' off with | true,true=>some () | _,_=>none)
 | _=>none
theorem dPt_eq {b off:Nat}{v:Value}{u:Unit}(h:dPt b off v=some u):v=.pointer (some ⟨b,off,none⟩):=by
 unfold dPt at h
 split at h
 ·split at h
  ·rename_i h1 h2
   rw[Nat.eq_of_beq_eq_true h1,Nat.eq_of_beq_eq_true h2]
  ·cases h
 ·cases h
def dNl (v:Value):Option Unit:=match v with
 | .slice none 0 0=>some ()
 | _=>none
theorem dNl_eq {v:Value}{u:Unit}(h:dNl v=some u):v=.slice none 0 0:=by
 unfold dNl at h
 split at h
 ·rfl
 ·cases h
def dSl (b z:Nat)(v:Value):Option Nat:=match v with
 | .slice (some ⟨b',0,none⟩) n z'=>(match Nat.beq b' b,Nat.beq z' z with | true,true=>some n | _,_=>none)
 | _=>none
theorem dSl_eq {b z n:Nat}{v:Value}(h:dSl b z v=some n):v=.slice (some ⟨b,0,none⟩) n z:=by
 unfold dSl at h
 split at h
 ·split at h
  ·rename_i h1 h2
   simp only[Option.some.injEq]at h;rw[Nat.eq_of_beq_eq_true h1,Nat.eq_of_beq_eq_true h2,h]
  ·cases h
 ·cases h
def dYi (l:Nat)(v:Value):Option Unit:=match v with
 | .func (.yield l') ⟨[]⟩ ⟨[]⟩=>(match Nat.beq l' l with | true=>some () | _=>none)
 | _=>none
def dFn (g:Nat)(v:Value):Option (List Value×List Value):=match v with
 | .func (.func g') ⟨a⟩ ⟨b⟩=>(match Nat.beq g' g with | true=>some (a,b) | _=>none)
 | _=>none
theorem dFn_eq {g:Nat}{v:Value}{p:List Value×List Value}(h:dFn g v=some p):v=.func (.func g) ⟨p.1⟩ ⟨p.2⟩:=by
 unfold dFn at h
 split at h
 ·split at h
  ·rename_i h1
   simp only[Option.some.injEq]at h;subst h;rw[Nat.eq_of_beq_eq_true h1]
  ·cases h
 ·cases h
def dCe (ob:Ob):Option (List Value):=match ob with
 | .cells ⟨l⟩ false=>some l
 | _=>none
theorem dCe_eq {ob:Ob}{l:List Value}(h:dCe ob=some l):ob=.cells ⟨l⟩ false:=by
 unfold dCe at h
 split at h
 ·simp only[Option.some.injEq]at h;rw[h]
 ·cases h
def dAr (ob:Ob):Option (Array Value):=match ob with
 | .cells c false=>some c
 | _=>none
theorem dAr_eq {ob:Ob}{l:Array Value}(h:dAr ob=some l):ob=.cells l false:=by
 unfold dAr at h
 split at h
 ·simp only[Option.some.injEq]at h;rw[h]
 ·cases h
def dDe (ob:Ob):Option Unit:=match ob with
 | .dead=>some ()
 | _=>none
theorem dDe_eq {ob:Ob}{u:Unit}(h:dDe ob=some u):ob=.dead:=by
 unfold dDe at h
 split at h
 ·rfl
 ·cases h
end
end Go.Gi
