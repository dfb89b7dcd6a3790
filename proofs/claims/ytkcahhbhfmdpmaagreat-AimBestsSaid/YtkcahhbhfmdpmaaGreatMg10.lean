/- Part 10 of the texts below the claim. Conditions: none. -/
import Derived.Test.YtkcahhbhfmdpmaaGreatMg9
import Derived.Test.YtkcahhbhfmdpmaaGreatMg7
import Derived.Test.YtkcahhbhfmdpmaaGreatMg6
set_option linter.unusedVariables false
set_option linter.unusedSimpArgs false
namespace Go.Gi
open Go.RowKit
noncomputable section
def boxD (m:Nat):Ob→Bool
 | .dead=>true
 | ob=>boxB m ob
theorem boxD_live {m:Nat}{ob:Ob}(h:boxD m ob=true) (hl:ob.live=true):ob.rw=true∧obSc m ob=true:=by
 cases ob with
 | dead=>cases hl
 | _ =>
  simp only[boxD,boxB,Bool.and_eq_true]at h;exact ⟨h.1.2,h.2⟩
theorem boxD_arr {m:Nat}{a:Array Value}(h:allFz a=true):boxD m (.cells a false)=true:=by
 simp only[boxD,boxB,own_sc h m,Bool.and_true]
 rfl
theorem all_box_nil {m:Nat}:([]:List Ob).all (boxD m)=true:=rfl
theorem all_box_cons {m:Nat}{b:Ob}{l:List Ob}(h:boxD m b=true) (hl:l.all (boxD m)=true):(b::l).all (boxD m)=true:=by
 rw[List.all_cons,h,hl];rfl
section
variable {K:Nat→Prop}{w0 w:World} {φ ψ:Phi}{X H2:List Ob} {κ:Nat→Nat}
theorem Inv.view (hF:Inv K w0 φ X w)
  (hv:∀(i:Nat) (ob:Ob),H2[i]?=some ob→ob.live=true→∃ob',X[κ i]?=some ob'∧ob'.live=true∧(ob.rw=true→ob'.rw=true)∧ψ i=φ (κ i)∧∀B base tot,ObR φ w ob' B base tot→ObR ψ w ob B base tot)
  (hi:∀(i i':Nat) (ob ob':Ob),H2[i]?=some ob→H2[i']?=some ob'→ob.live=true→ob'.live=true→κ i=κ i'→i=i')
  (ht:∀i,H2.length≤i→ψ i=none) (hz:∀B o,ψ.z B=some o→w.heap[B]?=some o)
  (hs:∀(i:Nat) (ob:Ob) (x:Nat×Nat×Nat),H2[i]?=some ob→ob.rw=true→ψ i=some x→ψ.z x.1=none) (hk:∀k,K k→ψ.z k=none):Inv K w0 ψ H2 w:=by
 refine ⟨?_,?_,?_,hF.keep,hF.klt,hF.size,hF.os,hF.tape,hF.output,ht,hz,hs,hk⟩
 ·intro i ob h1 h2
  obtain ⟨ob',k1,k2,_,k4,k5⟩:=hv i ob h1 h2;obtain ⟨B,base,tot,q1,q2⟩:=hF.obs _ ob' k1 k2;exact ⟨B,base,tot,k4.trans q1,k5 _ _ _ q2⟩
 ·intro i i' ob ob' x y hne h1 h1' hrw hl hx hy
  obtain ⟨o1,k1,k2,k3,k4,_⟩:=hv i ob h1 (Ob.live_of_rw hrw);obtain ⟨o2,l1,l2,_,l4,_⟩:=hv i' ob' h1' hl
  exact hF.sep _ _ o1 o2 x y (fun he=>hne (hi i i' ob ob' h1 h1' (Ob.live_of_rw hrw) hl he)) k1 l1 (k3 hrw) l2 (k4 ▸ hx) (l4 ▸ hy)
 ·intro i ob x h1 hrw hx
  obtain ⟨o1,k1,_,k3,k4,_⟩:=hv i ob h1 (Ob.live_of_rw hrw);exact hF.prot _ o1 x k1 (k3 hrw) (k4 ▸ hx)
theorem zF_frz (hF:Inv K w0 φ X w)(m:Nat):∀B o,zF φ X m w B=some o→w.heap[B]?=some o:=by
 intro B o hB;unfold zF at hB
 split at hB
 ·exact hB
 ·exact hF.frz B o hB
theorem zF_sep (hF:Inv K w0 φ X w) {m b:Nat}{ob:Ob}{x:Nat×Nat×Nat}(h1:b<m) (h2:X[b]?=some ob) (hrw:ob.rw=true) (hx2:φ b=some x):zF φ X m w x.1=none:=by
 unfold zF;rw[if_neg]
 ·exact hF.zsep b ob x h2 hrw hx2
 ·rintro ⟨b',ob',x',k1,k2,k3,k4,k5⟩
  exact hF.sep b b' ob ob' x x' (by omega) h2 k2 hrw (Ob.live_of_rw k3) hx2 k4 k5.symm
theorem VRs.picks {tm:Array Value}:∀(pk:List Nat) (vs:List Value) (T:List Value),VRs ψ T.toArray tm→VRl ψ vs (pk.map fun i=>tm.getD i undef)→vs.all (fun v=>notU v)=true→VRs ψ (sets T (pk.zip vs)).toArray tm:=by
 intro pk
 induction pk with
 | nil=>intro vs T h _ _;cases vs<;>exact h
 | cons i r ih =>
  intro vs T h hv hall
  cases hv with
  | cons h1' h2' =>
   rename_i v vs';simp only[List.all_cons,Bool.and_eq_true]at hall
   refine ih vs' _ ?_ h2' hall.2
   rcases Nat.lt_or_ge i tm.size with hi | hi
   ·have e:tm=tm.setIfInBounds i (tm.getD i undef):=by
     apply Array.ext_getElem?
     intro q
     rw[Array.getElem?_setIfInBounds]
     split
     ·rename_i hq
      subst hq
      first
      | (rw[Array.getElem?_eq_getElem hi];rfl)
      | (rw[if_pos hi,Array.getD_eq_getD_getElem?,Array.getElem?_eq_getElem hi];rfl)
     ·rfl
    rw[lset_eq];have:=h.set h1' i;rw[← e]at this;exact this
   ·have hT:T.length≤i:=by have:=h.size;simp at this;omega
    have e:lset T i v=T:=by rw[lset_set,List.set_eq_of_length_le hT]
    rw[e];exact h
theorem VRs.lo {LL:List Value}{N:Nat}{tm:Array Value}(hl:LL.length=N) (h:VRs φ LL.toArray tm):VRs ψ (junkF N (LL.map Go.Gi.lo)).toArray tm:=by
 rw[junkF_eq (by simpa using hl)]
 intro i;have hVi:=h i
 rw[List.getElem?_toArray]at hVi ⊢
 rw[List.getElem?_map]
 generalize LL[i]?=q at hVi
 generalize tm[i]?=q' at hVi ⊢
 cases hVi with
 | none=>exact .none
 | some h=>exact .some (cl_vr h)
end
def obCells:Ob→Option (List Value)
 | .cells ⟨c⟩ false=>some c
 | .loop _ _ ⟨t⟩ _ _ _ _=>some t
 | _=>none
def obPut:Ob→List Value→Ob
 | .cells _ r,c=>.cells ⟨c⟩ r
 | .loop st pend _ ps asn bd d,c=>.loop st pend ⟨c⟩ ps asn bd d
 | ob,_=>ob
theorem obPut_cells {ob:Ob}{cq:List Value}(h:obCells ob=some cq) (c:List Value):obCells (obPut ob c)=some c:=by
 unfold obCells at h
 split at h
 ·rfl
 ·rfl
 ·cases h
theorem obPut_live {ob:Ob}{cq:List Value}(h:obCells ob=some cq):ob.live=true∧ob.rw=true∧∀c,(obPut ob c).live=true∧(obPut ob c).rw=true:=by
 unfold obCells at h
 split at h
 ·exact ⟨rfl,rfl,fun c=>⟨rfl,rfl⟩⟩
 ·exact ⟨rfl,rfl,fun c=>⟨rfl,rfl⟩⟩
 ·cases h
theorem obPut_same {o1 o2:Ob}{c1 c2 x1 x2:List Value}(h1:obCells o1=some c1) (h2:obCells o2=some c2) (h:obPut o1 x1=obPut o2 x2):x1=x2∧∀z,obPut o1 z=obPut o2 z:=by
 unfold obCells at h1 h2
 split at h1
 ·split at h2
  ·simp only[obPut,Ob.cells.injEq,Array.mk.injEq,and_true]at h
   exact ⟨h,fun z=>rfl⟩
  ·simp [obPut]at h
  ·cases h2
 ·split at h2
  ·simp [obPut]at h
  ·simp only[obPut,Ob.loop.injEq,Array.mk.injEq]at h
   obtain ⟨a1,a2,a3,a4,a5,a6,a7⟩:=h
   refine ⟨a3,fun z=>?_⟩
   simp only[obPut,a1,a2,a4,a5,a6,a7]
  ·cases h2
 ·cases h1
theorem obPut_self {ob:Ob}{cq:List Value}(h:obCells ob=some cq):obPut ob cq=ob:=by
 unfold obCells at h
 split at h
 ·simp only[Option.some.injEq]at h;subst h;rfl
 ·simp only[Option.some.injEq]at h;subst h;rfl
 ·cases h
section
variable {φ ψ:Phi}{w:World}{B base tot n:Nat}
theorem obR_put {ob:Ob}{cq c2:List Value}(h:obCells ob=some cq) (hl:c2.length=cq.length) (hc:∀(k:Nat) (u u2:Value),cq[k]?=some u→c2[k]?=some u2→∀v',VR φ u v'→VR ψ u2 v') (hle:le (cut φ n) ψ)
  (hs:∃z,obSc n (obPut ob z)=true) (hr:ObR φ w ob B base tot):ObR ψ w (obPut ob c2) B base tot:=by
 unfold obCells at h
 split at h
 ·rename_i c
  simp only[Option.some.injEq]at h;subst h;obtain ⟨C,el,fr,r1,r2,r3⟩:=hr
  refine ⟨C,el,fr,r1,fun k u hu=>?_,fun hh=>?_⟩
  ·simp only[List.getElem?_toArray]at hu
   have hk:k<c.length:=by have:=lt_of_get hu;omega
   obtain ⟨v',r4,r5⟩:=r2 k c[k] (by rw[List.getElem?_toArray];exact List.getElem?_eq_getElem hk)
   exact ⟨v',r4,hc k _ u (List.getElem?_eq_getElem hk) hu v' r5⟩
  ·have:=r3 hh
   simp only[List.size_toArray]at this ⊢;rw[hl];exact this
 ·rename_i st pend c ps asn bd d
  simp only[Option.some.injEq]at h;subst h;obtain ⟨r0,fn,tm,D,r1,r2,td,r3⟩:=hr
  refine ⟨r0,fn,tm,D,r1,fun k=>?_,td,hle.fn _ _ ?_⟩
  ·have hk:=r2 k
   rw[List.getElem?_toArray]at hk ⊢
   rcases Nat.lt_or_ge k c.length with h1 | h1
   ·have e1:c[k]?=some c[k]:=List.getElem?_eq_getElem h1
    have e2:c2[k]?=some (c2[k]'(by omega)):=List.getElem?_eq_getElem (by omega)
    rw[e1]at hk;rw[e2]
    generalize tm[k]?=y at hk
    cases hk with
    | some hv=>exact .some (hc k _ _ e1 e2 _ hv)
   ·rw[List.getElem?_eq_none h1]at hk
    rw[List.getElem?_eq_none (by omega)]
    generalize tm[k]?=y at hk
    cases hk;exact .none
  ·obtain ⟨z,hs⟩:=hs
   simp only[obPut,obSc,Bool.and_eq_true,decide_eq_true_eq]at hs;exact (cut_lt hs.2).trans r3
 ·cases h
end
theorem obCells_sc {ob:Ob}{cq:List Value}{n k:Nat} {u v':Value} {φ:Phi}(h:obCells ob=some cq) (hs:obSc n ob=true) (hu:cq[k]?=some u) (hv:VR φ u v'):VR (cut φ n) u v':=by
 unfold obCells at h
 split at h
 ·simp only[Option.some.injEq]at h;subst h
  simp only[obSc,List.all_eq_true]at hs;exact sc1_cut (hs u (List.mem_of_getElem? hu)) hv
 ·simp only[Option.some.injEq]at h;subst h
  simp only[obSc,Bool.and_eq_true,List.all_eq_true]at hs;exact scT_cut (hs.1 u (List.mem_of_getElem? hu)) hv
 ·cases h
inductive Fgl:List Value→List Value→Prop
 | nil:Fgl [] []
 | same {v:Value} {l l':List Value} (h:Fgl l l'):Fgl (v::l) (v::l')
 | lo {v u:Value} {l l':List Value} (e:Go.Gi.lo v=u) (h:Fgl l l'):Fgl (v::l) (u::l')
theorem Fgl.get {φ:Phi} {l l':List Value}(h:Fgl l l'):∀{x:Array Value},VRs φ l.toArray x→VRs φ l'.toArray x:=by
 have key:∀{l l':List Value},Fgl l l'→∀i:Nat,OR (fun v u=>∀x,VR φ v x→VR φ u x) l[i]? l'[i]?:=by
  intro l l' h
  induction h with
  | nil=>intro i;simp;exact .none
  | same _ ih =>
   intro i
   cases i with
   | zero=>simp only[List.getElem?_cons_zero];exact .some fun x h=>h
   | succ i=>simpa using ih i
  | lo e _ ih =>
   intro i
   cases i with
   | zero=>simp only[List.getElem?_cons_zero];exact .some fun x h=>e ▸ cl_vr h
   | succ i=>simpa using ih i
 intro x hx i;have h1:=key h i;have h2:=hx i
 rw[List.getElem?_toArray]at h2 ⊢
 generalize l[i]?=a at h1 h2
 generalize l'[i]?=b at h1 ⊢
 generalize x[i]?=y at h2 ⊢
 cases h1 with
 | none=>cases h2;exact .none
 | some h3=>cases h2 with
  | some h4=>exact .some (h3 _ h4)
inductive Forgets:List Ob→List Ob→Prop
 | nil:Forgets [] []
 | same {o:Ob} {l l':List Ob} (h:Forgets l l'):Forgets (o::l) (o::l')
 | loop {st:LoopState} {pend:Option Code} {t t':List Value} {ps:Array Tmp} {asn bd:Code} {d:Nat} {l l':List Ob} (e:Fgl t t') (h:Forgets l l'):Forgets (.loop st pend ⟨t⟩ ps asn bd d::l) (.loop st pend ⟨t'⟩ ps asn bd d::l')
theorem Forgets.len {H' H:List Ob}(h:Forgets H' H):H'.length=H.length:=by
 induction h with
 | nil=>rfl
 | same _ ih=>simp [ih]
 | loop _ _ ih=>simp [ih]
theorem Forgets.refl:∀H:List Ob,Forgets H H
 | []=>.nil
 | _::r=>.same (Forgets.refl r)
theorem Forgets.get {H' H:List Ob}(h:Forgets H' H):∀(i:Nat) (ob:Ob),H[i]?=some ob→∃ob',H'[i]?=some ob'∧ob'.live=ob.live∧ob'.rw=ob.rw∧(ob.rw=false→ob'=ob)∧∀(φ:Phi) (w:World) (B base tot:Nat),ObR φ w ob' B base tot→ObR φ w ob B base tot:=by
 induction h with
 | nil=>intro i ob h;simp at h
 | same _ ih =>
  intro i ob hi
  cases i with
  | zero=>simp only[List.getElem?_cons_zero,Option.some.injEq]at hi;subst hi;exact ⟨_,rfl,rfl,rfl,fun _=>rfl,fun _ _ _ _ _ h=>h⟩
  | succ i=>exact ih i ob (by simpa using hi)
 | loop e _ ih =>
  intro i ob hi
  cases i with
  | zero =>
   simp only[List.getElem?_cons_zero,Option.some.injEq]at hi;subst hi
   refine ⟨_,rfl,rfl,rfl,fun h=>(by cases h),?_⟩
   rintro φ w B base tot ⟨r0,fn,tm,D,r1,r2,r3⟩
   exact ⟨r0,fn,tm,D,r1,e.get r2,r3⟩
  | succ i=>exact ih i ob (by simpa using hi)
theorem Forgets.inv {K:Nat→Prop}{w0 w:World} {φ:Phi} {H' H:List Ob}(h:Forgets H' H) (hI:Inv K w0 φ H' w):Inv K w0 φ H w:=by
 refine hI.view (κ:=id) (fun i ob hi hl=>?_) (fun i i' _ _ _ _ _ _ h=>h) (fun i hi=>hI.top i (by rw[h.len];exact hi)) hI.frz (fun i ob x hi hrw hx=>?_) hI.zk
 ·obtain ⟨ob',h1,h2,h3,_,h4⟩:=h.get i ob hi
  exact ⟨ob',h1,h2.trans hl,fun h=>h3.trans h,rfl,fun B base tot hr=>h4 φ w B base tot hr⟩
 ·obtain ⟨ob',h1,h2,h3,_,h4⟩:=h.get i ob hi
  exact hI.zsep i ob' x h1 (h3.trans hrw) hx
theorem Forgets.ro {H' H:List Ob}{b:Nat}{ob:Ob}(h:Forgets H' H) (hr:ob.rw=false) (hb:H[b]?=some ob):H'[b]?=some ob:=by
 obtain ⟨ob',h1,_,_,h4,_⟩:=h.get b ob hb;rw[h1,h4 hr]
def gB:List Nat→List Ob→Bool
 | [],_=>true
 | b::r,H=>(match nthO H b with | some (.cells a false)=>allFz a | _=>false)&&gB r H
def gC (H:List Ob)(k:Option Out):List Nat→Option Out
 | []=>k
 | b::r=>match nthO H b with
  | some (.cells a false)=>cond (allFz a) (gC H k r) none
  | _=>none
theorem gC_ok {H:List Ob}{k:Option Out}{o:Out}:∀{Bs:List Nat},gC H k Bs=some o→gB Bs H=true∧k=some o
 | [],h=>⟨rfl,h⟩
 | b::r,h=>by
  unfold gC at h;unfold gB
  split at h
  ·rename_i a hb
   obtain ⟨h1,h2⟩:=cond_some h;obtain ⟨h3,h4⟩:=gC_ok h2
   exact ⟨by rw[h1,h3];rfl,h4⟩
  ·cases h
section
variable {X D:Type}
structure LoopS (X D:Type) where
 c:Code
 N:Nat
 M:Nat
 S:List Nat
 Bs:List Nat
 q:Option (Nat×Nat)
 sz:Nat
 z:Nat
 sl:X→List Value
 hp:X→Value→List Ob
 own:X→Option (Array Value×Nat)
 ex:D→Ex
 pick:Ex→List Nat
 dv:D→List Value
 dh:D→List Ob
def LoopS.ownB (L:LoopS X D)(x:X):List Ob:=match L.own x with
 | none=>[]
 | some (a,_)=>[.cells a false]
def LoopS.ownV (L:LoopS X D)(x:X):Value:=match L.own x with
 | none=>.slice none 0 0
 | some (_,l)=>.slice (some ⟨L.M,0,none⟩) l L.sz
def LoopS.H (L:LoopS X D)(x:X):List Ob:=L.hp x (L.ownV x)++L.ownB x
def LoopS.good (L:LoopS X D)(x:X):Prop:=gB L.Bs (L.hp x (L.ownV x))=true∧∀a l,L.own x=some (a,l)→allFz a=true
def LoopS.encS (L:LoopS X D):Sum X D→Out
 | .inl x=>.ex .normal ⟨L.sl x,[],⟨L.H x,L.N,[]⟩⟩
 | .inr d=>.ex (L.ex d) ⟨L.dv d,[],⟨L.dh d,L.N,[]⟩⟩
def LoopS.headS (L:LoopS X D)(x:X)(j:List Value):Task:=.code none L.c ⟨sets (junkF L.N j) (L.S.zip (L.sl x)),[],⟨L.H x,0,[]⟩⟩
def LoopS.tailS (L:LoopS X D)(x:X)(d:D)(j:List Value):Out:=.ex (L.ex d) ⟨sets (junkF L.N j) ((L.pick (L.ex d)).zip (L.dv d)),[],⟨L.dh d++List.replicate (L.ownB x).length .dead,0,[]⟩⟩
def kS (N M:Nat)(S:List Nat)(pick:Ex→List Nat)(Bs:List Nat)(z:Nat)(q:Option (Nat×Nat)):Kn
 | .ex e s=>match s.d,lenIs s.t N with
  | [],true=>(match e with
   | .normal=>(match q with
    | none=>gC (s.h.bl.take M) (some (.ex .normal ⟨S.map (lget s.t),[],⟨s.h.bl.take M,N,s.h.wr⟩⟩)) Bs
    | some (q,j)=>(match nthO s.h.bl q with
     | some ob=>(match obCells ob with
      | some cq=>(match lget cq j with
       | .slice none 0 0=>gC (s.h.bl.take M) (some (.ex .normal ⟨S.map (lget s.t),[],⟨s.h.bl.take M,N,s.h.wr⟩⟩)) Bs
       | .slice (some ⟨b,0,none⟩) l zz=>(match Nat.ble M b,nthO s.h.bl b with
              | true,some (.cells a false)=>cond (allFz a) (gC ((s.h.bl.take M).set q (obPut ob (lset cq j (.slice (some ⟨M,0,none⟩) l zz)))) (some (.ex .normal ⟨S.map (lget s.t),[],⟨(s.h.bl.take M).set q (obPut ob (lset cq j (.slice (some ⟨M,0,none⟩) l zz)))++[.cells a false],N,s.h.wr⟩⟩)) Bs) none
              | _,_=>none)
       | _=>none)
      | _=>none)
     | _=>none))
   | e=>(match q with
    | none=>gC (s.h.bl.take M) (some (.ex e ⟨(pick e).map (lget s.t),[],⟨s.h.bl.take M,N,s.h.wr⟩⟩)) Bs
    | some (q,j)=>(match nthO s.h.bl q with
     | some ob=>(match obCells ob with
         | some cq=>frzG M z s.h.bl [lget cq j] fun us=>frzG M z s.h.bl ((pick e).map (lget s.t)) fun vs =>
           gC ((s.h.bl.take M).set q (obPut ob (lset cq j (us.headD undef)))) (some (.ex e ⟨vs,[],⟨(s.h.bl.take M).set q (obPut ob (lset cq j (us.headD undef))),N,s.h.wr⟩⟩)) Bs
         | _=>none)
     | _=>none)))
  | _,_=>none
 | _=>none
structure LoopS.OkS (L:LoopS X D):Prop where
 s2:∀x,(L.sl x).all (fun v=>notU v&&scT L.M v)=true
 s1:∀x,(L.sl x).length=L.S.length
 h1:∀x v,(L.hp x v).length=L.M
 h2:∀x,gB L.Bs (L.hp x (.slice none 0 0))=true→(L.hp x (.slice none 0 0)).all (boxD L.M)=true
 h3:∀x v,match L.q with
  | none=>L.hp x v=L.hp x (.slice none 0 0)
  | some (q,j)=>∃(ob0:Ob) (cs:List Value),(L.hp x (.slice none 0 0))[q]?=some ob0∧obCells ob0=some cs∧j<cs.length∧L.hp x v=(L.hp x (.slice none 0 0)).set q (obPut ob0 (cs.set j v))
 h4:∀x v,gB L.Bs (L.hp x v)=gB L.Bs (L.hp x (.slice none 0 0))
 qM:∀q j,L.q=some (q,j)→q<L.M
 d1:∀d,(L.dv d).all (fun v=>notU v&&scT L.M v)=true
 d2:∀d,(L.dh d).length=L.M
 d3:∀d,gB L.Bs (L.dh d)=true→(L.dh d).all (boxD L.M)=true
 e1:∀d,L.ex d≠.normal
 e2:∀d,noPanic (L.ex d)=true
 e3:∀d,(L.pick (L.ex d)).length=(L.dv d).length
 nd:L.S.Nodup
 lt:∀k∈L.S,k<L.N
theorem LoopS.own_cases {L:LoopS X D}(x:X):(L.own x=none∧L.ownB x=[]∧L.ownV x=.slice none 0 0)∨∃a l,L.own x=some (a,l)∧L.ownB x=[.cells a false]∧L.ownV x=.slice (some ⟨L.M,0,none⟩) l L.sz:=by
 unfold LoopS.ownB LoopS.ownV
 cases h:L.own x with
 | none=>exact .inl ⟨rfl,rfl,rfl⟩
 | some al=>obtain ⟨a,l⟩:=al;exact .inr ⟨a,l,rfl,rfl,rfl⟩
theorem all_boxD {m:Nat}{H:List Ob}(h:H.all (boxD m)=true) {i:Nat}{ob:Ob}(hi:H[i]?=some ob):boxD m ob=true:=by
 rw[List.all_eq_true]at h;exact h ob (List.mem_of_getElem? hi)
def turnP (φ:Phi)(M b:Nat)(o:Bool):Phi:=⟨fun i=>if i<M then φ i else if i=M∧o=true then φ b else none,φ.z⟩
theorem turn_le {φ:Phi}{M b:Nat}{o:Bool}:le (cut φ M) (turnP φ M b o):=by
 refine ⟨fun i y hi=>?_,fun B o hB=>hB⟩
 rcases Nat.lt_or_ge i M with h | h
 ·rw[cut_lt h]at hi
  show (if i<M then φ i else _)=some y
  rw[if_pos h];exact hi
 ·rw[cut_ge h]at hi;cases hi
theorem take_get {bl H1:List Ob}{M:Nat}(h:bl.take M=H1) {b:Nat}{ob:Ob}(hb:H1[b]?=some ob):b<M∧bl[b]?=some ob:=by
 rw[← h,List.getElem?_take]at hb
 split at hb
 ·exact ⟨by assumption,hb⟩
 ·cases hb
theorem LoopS.same {L:LoopS X D}(ok:L.OkS) {x:X}{bl:List Ob}(ho:L.own x=none) (e:bl.take L.M=L.H x) (hg:gB L.Bs (bl.take L.M)=true) :
  L.good x∧∀(K:Nat→Prop) (w0:World) (φ:Phi) (w:World),Inv K w0 φ bl w→Inv K w0 (turnP φ L.M 0 false) (L.H x) w:=by
 have hV:L.ownV x=.slice none 0 0:=by unfold LoopS.ownV;rw[ho]
 have hB:L.ownB x=[]:=by unfold LoopS.ownB;rw[ho]
 have hH:L.H x=L.hp x (.slice none 0 0):=by unfold LoopS.H;rw[hV,hB,List.append_nil]
 have hgb:gB L.Bs (L.hp x (.slice none 0 0))=true:=by rw[← hH,← e];exact hg
 have hbox:=ok.h2 x hgb
 refine ⟨⟨by rw[hV];exact hgb,fun a l h=>by rw[ho]at h;cases h⟩,fun K w0 φ w hF=>?_⟩
 rw[hH]at e ⊢
 refine hF.view (κ:=id) (fun i ob hi hl=>?_) (fun i i' _ _ _ _ _ _ h=>h) (fun i hi=>?_) hF.frz (fun i ob y hi hrw hy=>?_) hF.zk
 ·obtain ⟨k1,k2⟩:=take_get e hi
  refine ⟨ob,k2,hl,fun h=>h,if_pos k1,fun B base tot hr=>?_⟩
  exact (obSc_cut (boxD_live (all_boxD hbox hi) hl).2 hr).keep turn_le rfl
 ·rw[ok.h1]at hi
  show (if i<L.M then _ else if i=L.M∧false=true then _ else none)=none
  rw[if_neg (by omega),if_neg (by simp)]
 ·obtain ⟨k1,k2⟩:=take_get e hi
  have hy':(if i<L.M then φ i else if i=L.M∧false=true then φ 0 else none)=some y:=hy
  rw[if_pos k1]at hy';exact hF.zsep i ob y k2 hrw hy'
theorem LoopS.turn {L:LoopS X D}(ok:L.OkS) {e:Ex}{LL:List Value}{bl:List Ob}{b1:Nat}{wr:List Nat}{x:X}
  (h:kS L.N L.M L.S L.pick L.Bs L.z L.q (.ex e ⟨LL,[],⟨bl,b1,wr⟩⟩)=some (L.encS (.inl x))) :
  e=.normal∧LL.length=L.N∧L.good x∧L.S.map (lget LL)=L.sl x∧∃b o,∀(K:Nat→Prop) (w0:World) (φ:Phi) (w:World),Inv K w0 φ bl w→Inv K w0 (turnP φ L.M b o) (L.H x) w:=by
 unfold kS at h;simp only at h
 split at h
 case h_2=>cases h
 rename_i hlen;have k4:=lenIs_eq _ _ hlen
 have nil:∀{k:Option Out},gC (bl.take L.M) (some (.ex .normal ⟨L.S.map (lget LL),[],⟨bl.take L.M,L.N,wr⟩⟩)) L.Bs=some (L.encS (.inl x)) →
   L.good x∧L.S.map (lget LL)=L.sl x∧∃b o,∀(K:Nat→Prop) (w0:World) (φ:Phi) (w:World),Inv K w0 φ bl w→Inv K w0 (turnP φ L.M b o) (L.H x) w:=by
  intro _ h;obtain ⟨g1,g2⟩:=gC_ok h;simp only[LoopS.encS,Option.some.injEq,Out.ex.injEq,St.mk.injEq,Hp.mk.injEq,true_and]at g2;obtain ⟨q1,q2,_⟩:=g2
  have ho:L.own x=none:=by
   rcases LoopS.own_cases (L:=L) x with ⟨p1,_,_⟩ | ⟨a,l,p1,p2,_⟩
   ·exact p1
   ·have:=congrArg List.length q2
    unfold LoopS.H at this;rw[List.length_append,ok.h1,p2,List.length_take]at this;simp only[List.length_cons,List.length_nil]at this
    omega
  obtain ⟨s1,s2⟩:=LoopS.same ok ho q2 g1;exact ⟨s1,q1,0,false,s2⟩
 split at h
 ·split at h
  ·exact ⟨rfl,k4,nil (k:=none) h⟩
  ·rename_i q j hq
   split at h
   case h_2=>cases h
   rename_i obq hobq;rw[nthO_eq]at hobq
   split at h
   case h_2=>cases h
   rename_i cq hcq
   split at h
   ·exact ⟨rfl,k4,nil (k:=none) h⟩
   ·rename_i b l zz hsl
    split at h
    case h_2=>cases h
    rename_i a hmb hX;rw[nthO_eq]at hX;have hMb:=Nat.le_of_ble_eq_true hmb;obtain ⟨ha,h⟩:=cond_some h;obtain ⟨g1,g2⟩:=gC_ok h;simp only[LoopS.encS,Option.some.injEq,Out.ex.injEq,St.mk.injEq,Hp.mk.injEq,true_and]at g2;obtain ⟨q1,q2,_⟩:=g2;have hqM:=ok.qM q j hq
    have hblM:L.M≤bl.length:=by have:=lt_of_get hX;omega
    have hlen2:((bl.take L.M).set q (obPut obq (lset cq j (.slice (some ⟨L.M,0,none⟩) l zz)))).length=(L.hp x (L.ownV x)).length:=by
     rw[List.length_set,List.length_take,ok.h1];omega
    obtain ⟨q3,q4⟩:=List.append_inj (show _++_=L.hp x (L.ownV x)++L.ownB x from q2) hlen2
    rcases LoopS.own_cases (L:=L) x with ⟨p1,p2,p3⟩ | ⟨a2,l2,p1,p2,p3⟩
    ·rw[p2]at q4;cases q4
    ·rw[p2]at q4
     simp only[List.cons.injEq,Ob.cells.injEq,and_true]at q4;subst q4;have h3:=ok.h3 x (L.ownV x);rw[hq]at h3;obtain ⟨ob0,cs,c1,c0,c2,c3⟩:=h3;rw[c3]at q3
     have hqlt:q<(bl.take L.M).length:=by rw[List.length_take];omega
     have hqn:q<(L.hp x (.slice none 0 0)).length:=by rw[ok.h1];exact hqM
     have e0:=congrArg (fun z=>z[q]?) q3
     simp only[List.getElem?_set_self hqlt,List.getElem?_set_self hqn,Option.some.injEq]at e0
     obtain ⟨e1,e6⟩:=obPut_same hcq c0 e0
     have e2:∀i,i≠q→i<L.M→bl[i]?=(L.hp x (.slice none 0 0))[i]?:=by
      intro i hi him
      have:=congrArg (fun z=>z[i]?) q3
      simp only[List.getElem?_set_ne (Ne.symm hi)]at this
      rw[← this,List.getElem?_take,if_pos him]
     rw[lset_set]at e1
     have e3:cq.length=cs.length:=by
      have:=congrArg List.length e1
      simpa using this
     have e4:L.ownV x=.slice (some ⟨L.M,0,none⟩) l zz:=by
      have:=congrArg (fun z=>z[j]?) e1
      simp only[List.getElem?_set_self (show j<cq.length by omega),List.getElem?_set_self c2,Option.some.injEq]at this
      exact this.symm
     have e5:∀k,k≠j→cq[k]?=cs[k]?:=by
      intro k hk
      have:=congrArg (fun z=>z[k]?) e1
      simpa only [List.getElem?_set_ne (Ne.symm hk)] using this
     have hgb:gB L.Bs (L.hp x (L.ownV x))=true:=by rw[c3,← q3];exact g1
     have hgb0:gB L.Bs (L.hp x (.slice none 0 0))=true:=by rw[← ok.h4 x (L.ownV x)];exact hgb
     have hbox:=ok.h2 x hgb0
     refine ⟨rfl,k4,⟨hgb,fun a' l' h'=>by rw[p1]at h';simp only[Option.some.injEq,Prod.mk.injEq]at h';rw[← h'.1];exact ha⟩,q1,b,true,fun K w0 φ w hF=>?_⟩
     have hsl':cq[j]?=some (.slice (some ⟨b,0,none⟩) l zz):=getElem_of_lget hsl rfl
     have hHget:∀{i:Nat} {ob:Ob},(L.H x)[i]?=some ob→(i<L.M∧(L.hp x (L.ownV x))[i]?=some ob)∨(i=L.M∧ob=.cells a false):=by
      intro i ob hi;unfold LoopS.H at hi
      rcases get_app hi with ⟨h1,h2⟩ | ⟨h1,h2⟩
      ·exact .inl ⟨by rwa [ok.h1]at h1,h2⟩
      ·rw[ok.h1]at h1 h2
       rw[p2,List.getElem?_singleton]at h2
       split at h2
       ·simp only[Option.some.injEq]at h2
        exact .inr ⟨by omega,h2.symm⟩
       ·cases h2
     have hlt:∀{i:Nat},i<L.M→turnP φ L.M b true i=φ i:=fun h=>if_pos h
     have hM:turnP φ L.M b true L.M=φ b:=by
      show (if L.M<L.M then _ else if L.M=L.M∧true=true then φ b else none)=φ b
      rw[if_neg (by omega),if_pos ⟨rfl,rfl⟩]
     have hback:∀{i:Nat} {ob:Ob},(L.H x)[i]?=some ob→ob.live=true→∃ob',bl[if i=L.M then b else i]?=some ob'∧ob'.live=true∧(ob.rw=true→ob'.rw=true)∧turnP φ L.M b true i=φ (if i=L.M then b else i)∧∀B base tot,ObR φ w ob' B base tot→ObR (turnP φ L.M b true) w ob B base tot:=by
      intro i ob hi hl
      rcases hHget hi with ⟨hiM,h2⟩ | ⟨rfl,rfl⟩
      ·rw[if_neg (by omega),hlt hiM]
       rw[c3]at h2
       by_cases hiq:i=q
       ·subst hiq
        rw[List.getElem?_set_self hqn,Option.some.injEq]at h2
        subst h2;have hsc:=(boxD_live (all_boxD hbox c1) (obPut_live c0).1).2
        refine ⟨obq,hobq,(obPut_live hcq).1,fun _=>(obPut_live hcq).2.1,rfl,fun B base tot hr=>?_⟩
        rw[← e6]
        refine obR_put (n:=L.M) hcq (by rw[List.length_set,e3]) (fun k u u2 hu hu2 v' hv=>?_) turn_le ⟨cs,by rw[e6,obPut_self c0];exact hsc⟩ hr
        by_cases hkj:k=j
        ·subst hkj
         rw[List.getElem?_set_self c2,Option.some.injEq]at hu2
         subst hu2;rw[hsl',Option.some.injEq]at hu;subst hu;rw[e4]
         cases hv with
         | sliceZ hp' a2 c2'=>exact .sliceZ (a:=⟨L.M,0,none⟩) (hM.trans hp') a2 _
         | slice hp' hl' hc'=>exact .slice (hM.trans hp') hl' hc'
        ·rw[List.getElem?_set_ne (Ne.symm hkj),← e5 k hkj,hu,Option.some.injEq]at hu2
         subst hu2
         exact (obCells_sc c0 hsc (by rw[← e5 k hkj];exact hu) hv).mono turn_le
       ·rw[List.getElem?_set_ne (Ne.symm hiq)]at h2
        have h2':=h2;rw[← e2 i hiq hiM]at h2'
        refine ⟨ob,h2',hl,fun h=>h,rfl,fun B base tot hr=>?_⟩
        exact (obSc_cut (boxD_live (all_boxD hbox h2) hl).2 hr).keep turn_le rfl
      ·rw[if_pos rfl]
       refine ⟨_,hX,rfl,fun _=>rfl,hM,fun B base tot hr=>?_⟩
       refine (obSc_cut (own_sc ha L.M) hr).keep turn_le rfl
     refine hF.view (κ:=fun i=>if i=L.M then b else i) (fun i ob hi hl=>hback hi hl) (fun i i' ob ob' hi hi' hl hl' he=>?_) (fun i hi=>?_) hF.frz (fun i ob y hi hrw hy=>?_) hF.zk
     ·have g1:i≤L.M:=by rcases hHget hi with ⟨h,_⟩ | ⟨h,_⟩<;>omega
      have g2:i'≤L.M:=by rcases hHget hi' with ⟨h,_⟩ | ⟨h,_⟩<;>omega
      split at he<;>split at he<;>omega
     ·unfold LoopS.H at hi
      rw[List.length_append,ok.h1,p2]at hi;simp only[List.length_cons,List.length_nil]at hi
      show (if i<L.M then _ else if i=L.M∧true=true then _ else none)=none
      rw[if_neg (by omega),if_neg (by omega)]
     ·obtain ⟨ob',k1,k2,k3,k5,_⟩:=hback hi (Ob.live_of_rw hrw)
      rw[k5]at hy;exact hF.zsep _ ob' y k1 (k3 hrw) hy
   ·cases h
 ·rename_i e' hne
  exfalso
  split at h
  ·obtain ⟨_,g2⟩:=gC_ok h
   simp only[LoopS.encS,Option.some.injEq,Out.ex.injEq]at g2;exact hne g2.1
  ·split at h
   case h_2=>cases h
   split at h
   case h_2=>cases h
   obtain ⟨us,h1,_⟩:=frzG_all h;obtain ⟨vs,h2,_⟩:=frzG_all h1;obtain ⟨_,g2⟩:=gC_ok h2;simp only[LoopS.encS,Option.some.injEq,Out.ex.injEq]at g2;exact hne g2.1
def leaveP (φ φ0:Phi)(bl:List Ob)(M:Nat)(w:World):Phi:=⟨fun i=>if i<M then φ i else φ0 i,zF φ bl M w⟩
theorem LoopS.leave {L:LoopS X D}(ok:L.OkS) {e:Ex}{LL:List Value}{bl:List Ob}{b1:Nat}{wr:List Nat}{d:D}
  (h:kS L.N L.M L.S L.pick L.Bs L.z L.q (.ex e ⟨LL,[],⟨bl,b1,wr⟩⟩)=some (L.encS (.inr d))) :
  e=L.ex d∧LL.length=L.N∧gB L.Bs (L.dh d)=true∧∀(K:Nat→Prop) (w0:World) (φ φ0:Phi) (w:World) (tm:Array Value) (nb:Nat),Inv K w0 φ bl w→VRs φ LL.toArray tm→(∀i y,i<L.M→φ0 i=some y→φ i=some y)→(∀B o,φ0.z B=some o→φ.z B=some o)→(∀i,L.M+nb≤i→φ0 i=none) →
   ∃ψ,le φ0 ψ∧VRs ψ (sets (junkF L.N (LL.map lo)) ((L.pick (L.ex d)).zip (L.dv d))).toArray tm∧Inv K w0 ψ (L.dh d++List.replicate nb .dead) w:=by
 unfold kS at h;simp only at h
 split at h
 case h_2=>cases h
 rename_i hlen;have k4:=lenIs_eq _ _ hlen
 have hle0:∀{K:Nat→Prop} {w0:World} {φ φ0:Phi} {w:World},Inv K w0 φ bl w→(∀i y,i<L.M→φ0 i=some y→φ i=some y)→(∀B o,φ0.z B=some o→φ.z B=some o)→le φ0 (leaveP φ φ0 bl L.M w):=by
  intro K w0 φ φ0 w hF h1 h2
  refine ⟨fun i y hi=>?_,fun B o hB=>(zF_made hF L.M).le B o (h2 B o hB)⟩
  show (if i<L.M then φ i else φ0 i)=some y
  split
  ·rename_i h;exact h1 i y h hi
  ·exact hi
 have hcut:∀{K:Nat→Prop} {w0:World} {φ φ0:Phi} {w:World},Inv K w0 φ bl w→le (cut φ L.M) (leaveP φ φ0 bl L.M w):=by
  intro K w0 φ φ0 w hF
  refine ⟨fun i y hi=>?_,fun B o hB=>(zF_made hF L.M).le B o hB⟩
  rcases Nat.lt_or_ge i L.M with h | h
  ·rw[cut_lt h]at hi
   show (if i<L.M then φ i else φ0 i)=some y
   rw[if_pos h];exact hi
  ·rw[cut_ge h]at hi;cases hi
 have fin:∀{K:Nat→Prop} {w0:World} {φ φ0:Phi} {w:World} {nb:Nat},Inv K w0 φ bl w→(∀i,L.M+nb≤i→φ0 i=none)→gB L.Bs (L.dh d)=true →
   (∀(i:Nat) (ob:Ob),(L.dh d)[i]?=some ob→ob.live=true→i<L.M∧∃ob',bl[i]?=some ob'∧ob'.live=true∧(ob.rw=true→ob'.rw=true)∧(bl[i]?=some ob∨∀B base tot,ObR φ w ob' B base tot→ObR (leaveP φ φ0 bl L.M w) w ob B base tot)) →
   Inv K w0 (leaveP φ φ0 bl L.M w) (L.dh d++List.replicate nb .dead) w:=by
  intro K w0 φ φ0 w nb hF htop hg hv;have hbox:=ok.d3 d hg
  have hget:∀{i:Nat} {ob:Ob},(L.dh d++List.replicate nb Ob.dead)[i]?=some ob→ob.live=true→(L.dh d)[i]?=some ob:=by
   intro i ob hi hl
   rcases get_app hi with ⟨_,h2⟩ | ⟨_,h2⟩
   ·exact h2
   ·rw[List.getElem?_replicate]at h2
    split at h2
    ·simp only[Option.some.injEq]at h2;subst h2;cases hl
    ·cases h2
  refine hF.view (κ:=id) (fun i ob hi hl=>?_) (fun i i' _ _ _ _ _ _ h=>h) (fun i hi=>?_) (zF_frz hF L.M) (fun i ob y hi hrw hy=>?_) (fun k hk=>zF_k hF L.M hk)
  ·obtain ⟨hiM,ob',g1,g2,g3,g4⟩:=hv i ob (hget hi hl) hl
   refine ⟨ob',g1,g2,g3,if_pos hiM,fun B base tot hr=>?_⟩
   rcases g4 with g4 | g4
   ·rw[g1,Option.some.injEq]at g4
    subst g4;exact (obSc_cut (boxD_live (all_boxD hbox (hget hi hl)) hl).2 hr).keep (hcut hF) rfl
   ·exact g4 B base tot hr
  ·rw[List.length_append,ok.d2,List.length_replicate]at hi
   show (if i<L.M then φ i else φ0 i)=none
   rw[if_neg (by omega)]
   exact htop i hi
  ·have hl:=Ob.live_of_rw hrw
   obtain ⟨hiM,ob',g1,g2,g3,_⟩:=hv i ob (hget hi hl) hl
   have hy':(if i<L.M then φ i else φ0 i)=some y:=hy
   rw[if_pos hiM]at hy';exact zF_sep hF hiM g1 (g3 hrw) hy'
 split at h
 ·exfalso
  have no:∀{T:List Value} {H:List Ob} {wr:List Nat},¬(some (Out.ex .normal ⟨T,[],⟨H,L.N,wr⟩⟩)=some (L.encS (.inr d))):=by
   intro T H wr hh;simp only[LoopS.encS,Option.some.injEq,Out.ex.injEq]at hh;exact ok.e1 d hh.1.symm
  split at h
  ·exact no (gC_ok h).2
  ·split at h
   case h_2=>cases h
   split at h
   case h_2=>cases h
   split at h
   ·exact no (gC_ok h).2
   ·split at h
    case h_2=>cases h
    obtain ⟨_,h⟩:=cond_some h;exact no (gC_ok h).2
   ·cases h
 ·rename_i e' hne
  split at h
  ·obtain ⟨g1,g2⟩:=gC_ok h
   simp only[LoopS.encS,Option.some.injEq,Out.ex.injEq,St.mk.injEq,Hp.mk.injEq,true_and]at g2;obtain ⟨rfl,q1,q2,_⟩:=g2
   refine ⟨rfl,k4,by rw[← q2];exact g1,fun K w0 φ φ0 w tm nb hF hV ha hz ht=>⟨leaveP φ φ0 bl L.M w,hle0 hF ha hz,?_,?_⟩⟩
   ·have hs:SlotRs L.M LL (sets (junkF L.N (LL.map lo)) ((L.pick (L.ex d)).zip (L.dv d))):=by
     refine slotRs_known k4 fun kv hkv=>?_
     have hm:=ok.d1 d;rw[List.all_eq_true]at hm;have hm1:=hm _ (List.of_mem_zip hkv).2;rw[Bool.and_eq_true]at hm1;rw[← q1]at hkv
     have h5:=zip_get (show (kv.1,kv.2)∈(L.pick (L.ex d)).zip ((L.pick (L.ex d)).map (lget LL)) from hkv)
     exact ⟨getElem_of_lget h5.symm hm1.1,hm1.2⟩
    exact (hs.vrs hV).mono (hcut hF)
   ·refine fin hF ht (by rw[← q2];exact g1) fun i ob hi hl=>?_
    obtain ⟨k1,k2⟩:=take_get q2 hi
    exact ⟨k1,ob,k2,hl,fun h=>h,.inl k2⟩
  ·rename_i q j hq
   split at h
   case h_2=>cases h
   rename_i obq hobq;rw[nthO_eq]at hobq
   split at h
   case h_2=>cases h
   rename_i cq hcq;obtain ⟨us,h1,u1,u2⟩:=frzG_all h;obtain ⟨vs,h2,v1,v2⟩:=frzG_all h1;obtain ⟨g1,g2⟩:=gC_ok h2;simp only[LoopS.encS,Option.some.injEq,Out.ex.injEq,St.mk.injEq,Hp.mk.injEq,true_and]at g2;obtain ⟨rfl,q1,q2,_⟩:=g2;have hqM:=ok.qM q j hq
   have hqb:q<(bl.take L.M).length:=by rw[List.length_take];have:=lt_of_get hobq;omega
   refine ⟨rfl,k4,by rw[← q2];exact g1,fun K w0 φ φ0 w tm nb hF hV ha hz ht=>⟨leaveP φ φ0 bl L.M w,hle0 hF ha hz,?_,?_⟩⟩
   ·have hpick:VRl φ ((L.pick (L.ex d)).map (lget LL)) ((L.pick (L.ex d)).map (fun i=>tm.getD i undef)):=by
     generalize L.pick (L.ex d)=pk
     induction pk with
     | nil=>exact .nil
     | cons i r ih =>
      refine .cons ?_ ih
      have:=hV.getD i;rw[← lget_eq]at this;exact this
    obtain ⟨u,hu,hu2⟩:=frzG_ok (ψ:=leaveP φ φ0 bl L.M w) (zF_made hF L.M) (hcut hF) h1 hpick;obtain ⟨_,g3⟩:=gC_ok hu2;simp only[LoopS.encS,Option.some.injEq,Out.ex.injEq,St.mk.injEq,Hp.mk.injEq,true_and]at g3;obtain ⟨rfl,_,_⟩:=g3
    refine VRs.picks _ _ _ (VRs.lo k4 hV) hu ?_
    have hm:=ok.d1 d;rw[List.all_eq_true]at hm ⊢;intro v hv;have:=hm v hv;rw[Bool.and_eq_true]at this;exact this.1
   ·refine fin hF ht (by rw[← q2];exact g1) fun i ob hi hl=>?_
    rw[← q2]at hi
    by_cases hiq:i=q
    ·subst hiq
     rw[List.getElem?_set_self hqb,Option.some.injEq]at hi
     subst hi
     refine ⟨hqM,obq,hobq,(obPut_live hcq).1,fun _=>(obPut_live hcq).2.1,.inr fun B base tot hr=>?_⟩
     have hgd:gB L.Bs (L.dh d)=true:=by rw[← q2];exact g1
     have hget:(L.dh d)[i]?=some (obPut obq (lset cq j (us.headD undef))):=by rw[← q2,List.getElem?_set_self hqb]
     have hsc:=(boxD_live (all_boxD (ok.d3 d hgd) hget) ((obPut_live hcq).2.2 _).1).2;have hput:=obPut_cells hcq (lset cq j (us.headD undef))
     refine obR_put (n:=L.M) hcq (by rw[lset_set,List.length_set]) (fun k u u2 hu hu2 v' hv=>?_) (hcut hF) ⟨_,hsc⟩ hr
     by_cases hkj:k=j
     ·subst hkj
      have hlg:lget cq k=u:=by
       rw[lget_eq,Array.getD_eq_getD_getElem?,List.getElem?_toArray,hu];rfl
      obtain ⟨w1,hw,hw2⟩:=frzG_ok (ψ:=leaveP φ φ0 bl L.M w) (zF_made hF L.M) (hcut hF) h (show VRl φ [lget cq k] [v'] by rw[hlg];exact .cons hv .nil)
      obtain ⟨vs',h2',_,_⟩:=frzG_all hw2;obtain ⟨_,g3⟩:=gC_ok h2';simp only[LoopS.encS,Option.some.injEq,Out.ex.injEq,St.mk.injEq,Hp.mk.injEq,true_and]at g3;obtain ⟨_,g4,_⟩:=g3
      have e1:=congrArg (fun z=>z[i]?) (g4.trans q2.symm)
      simp only[List.getElem?_set_self hqb,Option.some.injEq]at e1
      obtain ⟨e1,_⟩:=obPut_same hcq hcq e1
      have e2:=congrArg (fun z=>z[k]?) e1
      have hkl:k<cq.length:=lt_of_get hu
      simp only[lset_set,List.getElem?_set_self hkl,Option.some.injEq]at e2
      rw[lset_set,List.getElem?_set_self hkl,Option.some.injEq]at hu2
      subst hu2;rw[← e2]
      cases hw with
      | cons hw3 hw4=>cases hw4;exact hw3
     ·rw[lset_set,List.getElem?_set_ne (Ne.symm hkj),hu,Option.some.injEq]at hu2
      subst hu2
      exact (obCells_sc hput hsc (by rw[lset_set,List.getElem?_set_ne (Ne.symm hkj)];exact hu) hv).mono (hcut hF)
    ·rw[List.getElem?_set_ne (Ne.symm hiq)]at hi
     obtain ⟨k1,k2⟩:=take_get rfl hi
     exact ⟨k1,ob,k2,hl,fun h=>h,.inl k2⟩
section
variable {P:Program}(hN:NoNG P) (hm:P.follows .mixedOrders=true)
include hN hm
omit hN hm in
theorem told_slots {M N:Nat}{S:List Nat}{vs t:List Value}(ht:t.length=N) (hv:vs.all (fun v=>notU v&&scT M v)=true) (hS:∀kv∈S.zip vs,lget t kv.1=kv.2):SlotRs M t (sets (junkF N (t.map lo)) (S.zip vs)):=by
 refine slotRs_known ht fun kv hkv=>?_
 rw[List.all_eq_true]at hv;have:=hv _ (List.of_mem_zip hkv).2;rw[Bool.and_eq_true]at this;exact ⟨getElem_of_lget (hS kv hkv) this.1,this.2⟩
theorem LoopS.sem {L:LoopS X D}(ok:L.OkS) {a:Ans}(hk:Known P a) {n:Nat}{rd:X→RT (Sum X D)}
  (hr:∀x j,L.good x→evC P a.c n (L.headS x j) (kS L.N L.M L.S L.pick L.Bs L.z L.q)=(rd x).out L.encS):∀{m:Nat} {x:X} {d:D},loopV rd m x=some d→L.good x →
  ∀{t:List Value},t.length=L.N→(∀kv∈L.S.zip (L.sl x),lget t kv.1=kv.2)→∃j,gB L.Bs (L.dh d)=true∧∀(K:Nat→Prop) (w0:World) (φ φ0:Phi) (w:World) (ac:Act) (F:Fence) (n:Nat) (nb:Nat),
   Inv K w0 φ (L.H x) w→VRs φ t.toArray ac.tmps→DRs φ [] ac.defers→FenceOk φ none F→(∀i y,i<L.M→φ0 i=some y→φ i=some y)→(∀B o,φ0.z B=some o→φ.z B=some o)→(∀i,L.M+nb≤i→φ0 i=none) →
   wpLoopIn F n P L.c (CodeR K w0 φ0 (L.ex d) ⟨sets (junkF L.N j) ((L.pick (L.ex d)).zip (L.dv d)),[],⟨L.dh d++List.replicate nb .dead,0,[]⟩⟩) ac w
 | 0,_,_,h,_,_,_,_=>by cases h
 | m+1,x,d,h,hx,t,ht,hS=>by
  have hev:∀{y:Sum X D},(rd x).val=some y→∃e LL bl b1 wr,Fact P (.code none L.c ⟨sets (junkF L.N (t.map lo)) (L.S.zip (L.sl x)),[],⟨L.H x,0,[]⟩⟩) (.ex e ⟨LL,[],⟨bl,b1,wr⟩⟩)∧kS L.N L.M L.S L.pick L.Bs L.z L.q (.ex e ⟨LL,[],⟨bl,b1,wr⟩⟩)=some (L.encS y):=by
   intro y hy;have h1:=hr x (t.map lo) hx;rw[RT.out_val,hy,Option.map_some]at h1;obtain ⟨o,h2,hf⟩:=hk.factK hN hm h1;have h3:=h2;unfold kS at h3
   split at h3
   case h_2=>cases h3
   rename_i e s
   split at h3
   case h_2=>cases h3
   rename_i hd _;obtain ⟨LL,d0,⟨bl,b1,wr1⟩⟩:=s;simp only at hd;subst hd;exact ⟨e,LL,bl,b1,wr1,hf,h2⟩
  have hsl:=told_slots ht (ok.s2 x) hS
  have dnil:∀{φ ψ:Phi} {l:List Deferred},DRs φ [] l→DRs ψ [] l:=fun h=>by cases h;exact .nil
  unfold loopV at h
  split at h
  ·rename_i y hy
   obtain ⟨e,LL,bl,b1,wr,hf,hks⟩:=hev hy;obtain ⟨rfl,k4,hgy,hsy,b,o,hturn⟩:=LoopS.turn ok hks;have hTl:(sets (junkF L.N (LL.map lo)) (L.S.zip (L.sl y))).length=L.N:=len_sets _
   have hTs:SlotRs L.M LL (sets (junkF L.N (LL.map lo)) (L.S.zip (L.sl y))):=told_slots k4 (ok.s2 y) fun kv hkv=>by
    rw[← hsy]at hkv
    exact (zip_get (show (kv.1,kv.2)∈L.S.zip (L.S.map (lget LL)) from hkv)).symm
   obtain ⟨j,hgd,hj⟩:=LoopS.sem ok hk hr h hgy hTl (lget_setsL ok.nd ok.lt (ok.s1 y) _)
   refine ⟨j,hgd,fun K w0 φ φ0 w ac F n nb hI hV hD hF ha hz htop=>?_⟩
   obtain ⟨_,hh⟩:=hf.1 (Nat.zero_le _)
   refine rounds_of (wpIn_mono (hh K w0 φ w ac F n hI ((hsl.vrs hV).mono (cut_le φ _)) hD hF) ?_)
   rintro x' a' w' ⟨φ',hle,hx',ht',hd',hI'⟩
   cases hx'
   show wpLoopIn F n P L.c _ a' w'
   refine hj K w0 (turnP φ' L.M b o) φ0 w' a' F n nb (hturn K w0 φ' w' hI') ((hTs.vrs ht').mono turn_le) (dnil hd') hF (fun i y hi h0=>?_) (fun B o h0=>hle.zz B o (hz B o h0)) htop
   show (if i<L.M then φ' i else _)=some y
   rw[if_pos hi];exact hle _ _ (ha i y hi h0)
  ·rename_i d' hd
   simp only[Option.some.injEq]at h;subst h;obtain ⟨e,LL,bl,b1,wr,hf,hks⟩:=hev hd;obtain ⟨rfl,k4,hgd,hleave⟩:=LoopS.leave ok hks
   refine ⟨LL.map lo,hgd,fun K w0 φ φ0 w ac F n nb hI hV hD hF ha hz htop=>?_⟩
   obtain ⟨_,hh⟩:=hf.1 (Nat.zero_le _)
   refine rounds_of (wpIn_mono (hh K w0 φ w ac F n hI ((hsl.vrs hV).mono (cut_le φ _)) hD hF) ?_)
   rintro x' a' w' ⟨φ',hle,hx',ht',hd',hI'⟩
   obtain ⟨ψ,p1,p2,p3⟩:=hleave K w0 φ' φ0 w' a'.tmps nb hI' ht' (fun i y hi h0=>hle _ _ (ha i y hi h0)) (fun B o h0=>hle.zz B o (hz B o h0)) htop
   have hc:CodeR K w0 φ0 (L.ex d') ⟨sets (junkF L.N (LL.map lo)) ((L.pick (L.ex d')).zip (L.dv d')),[],⟨L.dh d'++List.replicate nb .dead,0,[]⟩⟩ x' a' w':=⟨ψ,p1,hx'.any (ok.e2 d'),p2,dnil hd',p3⟩;have hne:=ok.e1 d'
   revert hc
   generalize CodeR K w0 φ0 (L.ex d') ⟨sets (junkF L.N (LL.map lo)) ((L.pick (L.ex d')).zip (L.dv d')),[],⟨L.dh d'++List.replicate nb .dead,0,[]⟩⟩=Q
   intro hc
   generalize L.ex d'=q at hx' hne
   cases hx' with
   | normal=>exact absurd rfl hne
   | _=>exact hc
  ·cases h
theorem LoopS.fact {L:LoopS X D}(ok:L.OkS) {a:Ans}(hk:Known P a) {n:Nat}{rd:X→RT (Sum X D)}
  (hr:∀x j,L.good x→evC P a.c n (L.headS x j) (kS L.N L.M L.S L.pick L.Bs L.z L.q)=(rd x).out L.encS) {m:Nat} {x:X} {d:D} (h:loopV rd m x=some d) (hx:L.good x)
  {t:List Value} (ht:t.length=L.N) (hS:∀kv∈L.S.zip (L.sl x),lget t kv.1=kv.2):∃j,Fact P (.code none (.loop L.c) ⟨t,[],⟨L.H x,0,[]⟩⟩) (L.tailS x d j):=by
 obtain ⟨j,hg,hj⟩:=LoopS.sem hN hm ok hk hr h hx ht hS
 have hlen:(L.H x).length=L.M+(L.ownB x).length:=by unfold LoopS.H;rw[List.length_append,ok.h1]
 have key:∀(K:Nat→Prop) (w0:World) (φ:Phi) (w:World) (ac:Act) (F:Fence) (n:Nat),Inv K w0 φ (L.H x) w→VRs φ t.toArray ac.tmps→DRs φ [] ac.defers→FenceOk φ none F →
   wpLoopIn F n P L.c (CodeR K w0 φ (L.ex d) ⟨sets (junkF L.N j) ((L.pick (L.ex d)).zip (L.dv d)),[],⟨L.dh d++List.replicate (L.ownB x).length .dead,0,[]⟩⟩) ac w:=fun K w0 φ w ac F n hI ht hd hF =>
  hj K w0 φ φ w ac F n (L.ownB x).length hI ht hd hF (fun _ _ _ h=>h) (fun _ _ h=>h) fun i hi=>hI.top i (by rw[hlen];exact hi)
 refine ⟨j,fun _=>⟨⟨rfl,?_,fun b hb _=>absurd hb (Nat.not_lt_zero _),fun b ob hb hl hrw=>?_⟩,fun K w0 φ w ac F n hI ht hd hF=>wpIn_of_rounds (key K w0 φ w ac F n hI ht hd hF)⟩,fun _ K w0 φ w ac F n hI ht hd hF=>key K w0 φ w ac F n hI ht hd hF⟩
 ·show (L.H x).length≤(L.dh d++List.replicate (L.ownB x).length Ob.dead).length
  rw[hlen,List.length_append,ok.d2,List.length_replicate];exact Nat.le_refl _
 ·exfalso
  rcases get_app hb with ⟨_,h2⟩ | ⟨_,h2⟩
  ·rw[(boxD_live (all_boxD (ok.d3 d hg) h2) hl).1]at hrw;cases hrw
  ·rw[List.getElem?_replicate]at h2
   split at h2
   ·simp only[Option.some.injEq]at h2;subst h2;cases hl
   ·cases h2
omit hN hm in
theorem Fact.tells {c:Code}{t:List Value} {H H':List Ob}{o:Out}(hf:Fact P (.code none (.loop c) ⟨t,[],⟨H,0,[]⟩⟩) o) (hg:Forgets H' H):Fact P (.code none (.loop c) ⟨t,[],⟨H',0,[]⟩⟩) o:=by
 cases o with
 | ex e s =>
  obtain ⟨h1,h2⟩:=hf
  refine ⟨fun hb=>?_,fun hb K w0 φ w a F n hI ht hd hF=>h2 (Nat.zero_le _) K w0 φ w a F n (hg.inv hI) ht hd hF⟩
  obtain ⟨hp,hh⟩:=h1 (Nat.zero_le _)
  refine ⟨⟨hp.base,?_,fun b hb=>absurd hb (Nat.not_lt_zero _),fun b ob hx hl hr=>?_⟩,fun K w0 φ w a F n hI ht hd hF=>hh K w0 φ w a F n (hg.inv hI) ht hd hF⟩
  ·have h3:=hp.len
   have h4:=hg.len
   show H'.length≤_
   rw[h4];exact h3
  ·exact hg.ro hr (hp.ro b ob hx hl hr)
 | _=>exact absurd hf.1 (by intro h;exact h)
theorem LoopS.known {L:LoopS X D}(ok:L.OkS) {a:Ans}(hk:Known P a) {n:Nat}{rd:X→RT (Sum X D)}
  (hr:∀x j,L.good x→evC P a.c n (L.headS x j) (kS L.N L.M L.S L.pick L.Bs L.z L.q)=(rd x).out L.encS) {c0:Code} (dec:Task→Option (Code×X)) (alt:X→List Value→AT)
  (hd:∀t c x,dec t=some (c,x)→c=c0→∃T H',t=.code none (.loop L.c) ⟨T,[],⟨H',0,[]⟩⟩∧Forgets H' (L.H x)∧T.length=L.N∧∀kv∈L.S.zip (L.sl x),lget T kv.1=kv.2)
  (ha:∀x j o,(alt x j).out=some o→L.good x∧∃d,loopR rd x=some d∧o=L.tailS x d j) :
  ∃J:Task→List Value,Known P (loopAns c0 dec alt J):=by
 classical
 let good:Task→List Value→Prop:=fun t j=>∀c x d,dec t=some (c,x)→c=c0→L.good x→loopR rd x=some d→Fact P t (L.tailS x d j)
 have hex:∀t,∃j,good t j:=by
  intro t
  cases hdt:dec t with
  | none=>exact ⟨[],fun c x d h=>by rw[hdt]at h;cases h⟩
  | some cx =>
   obtain ⟨c,x⟩:=cx
   by_cases hc:c=c0
   ·by_cases hx:L.good x
    ·cases hl:loopR rd x with
     | none=>exact ⟨[],fun c' x' d h _ _ hr=>by rw[hdt]at h;cases h;rw[hl]at hr;cases hr⟩
     | some d =>
      obtain ⟨T,H',rfl,hg,hT,hS⟩:=hd t c x hdt hc;obtain ⟨m,hm'⟩:=loopR_some hl;obtain ⟨j,hj⟩:=LoopS.fact hN hm ok hk hr hm' hx hT hS
      exact ⟨j,fun c' x' d' h _ _ hr=>by rw[hdt]at h;cases h;rw[hl]at hr;cases hr;exact hj.tells hg⟩
    ·exact ⟨[],fun c' x' d h _ h' _=>by rw[hdt]at h;cases h;exact absurd h' hx⟩
   ·exact ⟨[],fun c' x' d h h' _ _=>by rw[hdt]at h;cases h;exact absurd h' hc⟩
 refine ⟨fun t=>Classical.choose (hex t),?_⟩
 intro t at' o ht ho
 cases hdt:dec t with
 | none=>simp only[loopAns,hdt]at ht;cases ht
 | some cx =>
  obtain ⟨c,x⟩:=cx;simp only[loopAns,hdt,Option.some.injEq]at ht;subst ht;simp only[AT.out]at ho;obtain ⟨h1,h2⟩:=cond_some ho;obtain ⟨hx,d,h3,rfl⟩:=ha x _ o h2;exact Classical.choose_spec (hex t) c x d hdt (eqCode_eq h1) hx h3
omit hN hm in
theorem Fact.rebase {c:Code}{t T:List Value}{H H1:List Ob}{e:Ex}{b:Nat}{w:List Nat}(hf:Fact P (.code none (.loop c) ⟨t,[],⟨H,0,[]⟩⟩) (.ex e ⟨T,[],⟨H1,0,[]⟩⟩)) :
  Fact P (.code none (.loop c) ⟨t,[],⟨H,b,w⟩⟩) (.ex e ⟨T,[],⟨H1,b,List.range H.length++w⟩⟩):=by
 obtain ⟨h1,h2⟩:=hf;obtain ⟨hp,hh⟩:=h1 (Nat.zero_le _)
 refine ⟨fun hb=>⟨⟨rfl,hp.len,fun k hk hn=>?_,hp.ro⟩,hh⟩,fun hb=>h2 (Nat.zero_le _)⟩
 exact absurd (List.mem_append_left w (List.mem_range.2 (Nat.lt_of_lt_of_le hk hb))) hn
def LoopS.tailB (L:LoopS X D)(x:X)(d:D)(j:List Value)(b:Nat)(w:List Nat):Out:=.ex (L.ex d) ⟨sets (junkF L.N j) ((L.pick (L.ex d)).zip (L.dv d)),[],⟨L.dh d++List.replicate (L.ownB x).length .dead,b,List.range (L.M+(L.ownB x).length)++w⟩⟩
theorem LoopS.knownB {L:LoopS X D}(ok:L.OkS) {a:Ans}(hk:Known P a) {n:Nat}{rd:X→RT (Sum X D)}
  (hr:∀x j,L.good x→evC P a.c n (L.headS x j) (kS L.N L.M L.S L.pick L.Bs L.z L.q)=(rd x).out L.encS) {c0:Code} (bs:X→Nat) (ws:X→List Nat) (dec:Task→Option (Code×X)) (alt:X→List Value→AT)
  (hd:∀t c x,dec t=some (c,x)→c=c0→∃T H',t=.code none (.loop L.c) ⟨T,[],⟨H',bs x,ws x⟩⟩∧Forgets H' (L.H x)∧T.length=L.N∧∀kv∈L.S.zip (L.sl x),lget T kv.1=kv.2)
  (ha:∀x j o,(alt x j).out=some o→L.good x∧∃d,loopR rd x=some d∧o=L.tailB x d j (bs x) (ws x)) :
  ∃J:Task→List Value,Known P (loopAns c0 dec alt J):=by
 classical
 let good:Task→List Value→Prop:=fun t j=>∀c x d,dec t=some (c,x)→c=c0→L.good x→loopR rd x=some d→Fact P t (L.tailB x d j (bs x) (ws x))
 have hex:∀t,∃j,good t j:=by
  intro t
  cases hdt:dec t with
  | none=>exact ⟨[],fun c x d h=>by rw[hdt]at h;cases h⟩
  | some cx =>
   obtain ⟨c,x⟩:=cx
   by_cases hc:c=c0
   ·by_cases hx:L.good x
    ·cases hl:loopR rd x with
     | none=>exact ⟨[],fun c' x' d h _ _ hr=>by rw[hdt]at h;cases h;rw[hl]at hr;cases hr⟩
     | some d =>
      obtain ⟨T,H',rfl,hg,hT,hS⟩:=hd t c x hdt hc;obtain ⟨m,hm'⟩:=loopR_some hl;obtain ⟨j,hj⟩:=LoopS.fact hN hm ok hk hr hm' hx hT hS
      refine ⟨j,fun c' x' d' h _ _ hr=>?_⟩
      rw[hdt]at h;cases h;rw[hl]at hr;cases hr;have:=Fact.rebase (b:=bs x) (w:=ws x) (hj.tells hg)
      have hlen:H'.length=L.M+(L.ownB x).length:=by rw[hg.len];unfold LoopS.H;rw[List.length_append,ok.h1]
      rw[hlen]at this;exact this
    ·exact ⟨[],fun c' x' d h _ h' _=>by rw[hdt]at h;cases h;exact absurd h' hx⟩
   ·exact ⟨[],fun c' x' d h h' _ _=>by rw[hdt]at h;cases h;exact absurd h' hc⟩
 refine ⟨fun t=>Classical.choose (hex t),?_⟩
 intro t at' o ht ho
 cases hdt:dec t with
 | none=>simp only[loopAns,hdt]at ht;cases ht
 | some cx =>
  obtain ⟨c,x⟩:=cx;simp only[loopAns,hdt,Option.some.injEq]at ht;subst ht;simp only[AT.out]at ho;obtain ⟨h1,h2⟩:=cond_some ho;obtain ⟨hx,d,h3,rfl⟩:=ha x _ o h2;exact Classical.choose_spec (hex t) c x d hdt (eqCode_eq h1) hx h3
end
end
def orO {α:Type}:Option α→Option α→Option α
 | some a,_=>some a
 | none,b=>b
theorem orO_eq {α:Type}{a b:Option α}{c:α}(h:orO a b=some c):a=some c∨b=some c:=by
 cases a with
 | none=>exact .inr h
 | some a=>exact .inl h
abbrev Own:=Option (Array Value×Nat)
def ownBs (o:List Own):List Ob:=o.map fun
 | none=>.dead
 | some (a,_)=>.cells a false
def ownVs:Nat→List Nat→List Own→List Value
 | b,z::zs,none::r=>.slice none 0 0::ownVs (b+1) zs r
 | b,z::zs,some (_,l)::r=>.slice (some ⟨b,0,none⟩) l z::ownVs (b+1) zs r
 | _,_,_=>[]
def ownP:List Own→List Ob
 | []=>[]
 | none::r=>ownP r
 | some (a,_)::r=>.cells a false::ownP r
def ownW:Nat→List Nat→List Own→List Value
 | b,z::zs,none::r=>.slice none 0 0::ownW b zs r
 | b,z::zs,some (_,l)::r=>.slice (some ⟨b,0,none⟩) l z::ownW (b+1) zs r
 | _,_,_=>[]
def ownI:Nat→List Own→List (Option Nat)
 | _,[]=>[]
 | b,none::r=>none::ownI b r
 | b,some _::r=>some b::ownI (b+1) r
theorem ownBs_len (o:List Own):(ownBs o).length=o.length:=by simp [ownBs]
theorem ownI_len:∀(b:Nat) (o:List Own),(ownI b o).length=o.length
 | _,[]=>rfl
 | b,none::r=>by simp [ownI,ownI_len b r]
 | b,some _::r=>by simp [ownI,ownI_len (b+1) r]
theorem ownVs_len:∀(b:Nat) (zs:List Nat)(o:List Own),zs.length=o.length→(ownVs b zs o).length=o.length
 | _,[],[],_=>rfl
 | b,z::zs,none::r,h=>by simp only[ownVs,List.length_cons];rw[ownVs_len (b+1) zs r (by simpa using h)]
 | b,z::zs,some (a,l)::r,h=>by simp only[ownVs,List.length_cons];rw[ownVs_len (b+1) zs r (by simpa using h)]
theorem ownVs_get:∀(b:Nat) (zs:List Nat)(o:List Own)(i:Nat),zs.length=o.length→(∀z,zs[i]?=some z→o[i]?=some none→(ownVs b zs o)[i]?=some (.slice none 0 0))∧(∀z a l,zs[i]?=some z→o[i]?=some (some (a,l))→(ownVs b zs o)[i]?=some (.slice (some ⟨b+i,0,none⟩) l z))
 | b,[],[],i,_=>⟨fun z h=>by simp at h,fun z a l h=>by simp at h⟩
 | b,z::zs,none::r,0,h=>⟨fun _ _ _=>rfl,fun _ _ _ _ h2=>by simp at h2⟩
 | b,z::zs,some (a,l)::r,0,h=>⟨fun _ _ h2=>by simp at h2,fun z' a' l' h1 h2=>by simp at h1 h2;obtain ⟨rfl,rfl⟩:=h2;subst h1;rfl⟩
 | b,z::zs,none::r,i+1,h=>by
  have:=ownVs_get (b+1) zs r i (by simpa using h)
  refine ⟨fun z' h1 h2=>?_,fun z' a' l' h1 h2=>?_⟩
  ·exact this.1 z' (by simpa using h1) (by simpa using h2)
  ·have e:=this.2 z' a' l' (by simpa using h1) (by simpa using h2)
   rw[show b+(i+1)=b+1+i by omega];exact e
 | b,z::zs,some (a,l)::r,i+1,h=>by
  have:=ownVs_get (b+1) zs r i (by simpa using h)
  refine ⟨fun z' h1 h2=>?_,fun z' a' l' h1 h2=>?_⟩
  ·exact this.1 z' (by simpa using h1) (by simpa using h2)
  ·have e:=this.2 z' a' l' (by simpa using h1) (by simpa using h2)
   rw[show b+(i+1)=b+1+i by omega];exact e
theorem ownVs_notU:∀(b:Nat) (zs:List Nat)(o:List Own),(ownVs b zs o).all notU=true
 | b,z::zs,none::r=>by simp only[ownVs,List.all_cons,ownVs_notU (b+1) zs r];rfl
 | b,z::zs,some (a,l)::r=>by simp only[ownVs,List.all_cons,ownVs_notU (b+1) zs r];rfl
 | _,[],_=>rfl
 | _,_::_,[]=>rfl
structure Turned (M N:Nat) (os szs:List Nat) (LL:List Value) (bl:List Ob) (bs:List (Option Nat)) (o:List Own):Prop where
 len:LL.length=N
 l1:os.length=o.length
 l2:bs.length=o.length
 l3:szs.length=o.length
 nil:∀(i s:Nat),os[i]?=some s→o[i]?=some none→bs[i]?=some none∧lget LL s=.slice none 0 0
 own:∀(i s:Nat) (a:Array Value) (l:Nat),os[i]?=some s→o[i]?=some (some (a,l))→∃b z,bs[i]?=some (some b)∧szs[i]?=some z∧lget LL s=.slice (some ⟨b,0,none⟩) l z∧M≤b∧bl[b]?=some (.cells a false)∧allFz a=true
 inj:∀(i i' b:Nat),bs[i]?=some (some b)→bs[i']?=some (some b)→i=i'
def turnT (φ φ0:Phi)(M nb:Nat)(bs:List (Option Nat)):Phi :=
 ⟨fun i=>if i<M then φ i else if i<M+nb then φ0 i else match bs[i-(M+nb)]? with | some (some b)=>φ b | _=>none,φ.z⟩
theorem turnT_lt {φ φ0:Phi}{M nb:Nat}{bs:List (Option Nat)}{i:Nat}(h:i<M):turnT φ φ0 M nb bs i=φ i:=if_pos h
theorem turnT_own {φ φ0:Phi}{M nb:Nat}{bs:List (Option Nat)}{i b:Nat}(h:bs[i]?=some (some b)):turnT φ φ0 M nb bs (M+nb+i)=φ b:=by
 show (if M+nb+i<M then _ else if M+nb+i<M+nb then _ else _)=_
 rw[if_neg (by omega),if_neg (by omega),show M+nb+i-(M+nb)=i by omega,h]
theorem turnT_top {φ φ0:Phi}{M nb:Nat}{bs:List (Option Nat)}{i:Nat}(h:M+nb+bs.length≤i):turnT φ φ0 M nb bs i=none:=by
 show (if i<M then _ else if i<M+nb then _ else _)=_
 rw[if_neg (by omega),if_neg (by omega),List.getElem?_eq_none (by omega)]
theorem turnT_le {φ φ0:Phi}{M nb:Nat}{bs:List (Option Nat)}(h1:∀i y,i<M→φ0 i=some y→φ i=some y) (h2:∀B o,φ0.z B=some o→φ.z B=some o) (h3:∀i,M+nb≤i→φ0 i=none):le φ0 (turnT φ φ0 M nb bs):=by
 refine ⟨fun i y hi=>?_,h2⟩
 show (if i<M then _ else if i<M+nb then _ else _)=_
 split
 ·rename_i h;exact h1 i y h hi
 ·split
  ·exact hi
  ·rw[h3 i (by omega)]at hi;cases hi
theorem turnT_cut {φ φ0:Phi}{M nb:Nat}{bs:List (Option Nat)}:le (cut φ M) (turnT φ φ0 M nb bs):=by
 refine ⟨fun i y hi=>?_,fun B o hB=>hB⟩
 rcases Nat.lt_or_ge i M with h | h
 ·rw[cut_lt h]at hi;rw[turnT_lt h];exact hi
 ·rw[cut_ge h]at hi;cases hi
theorem vrl_app {φ:Phi} {a a' b b':List Value}(h:VRl φ a a') (k:VRl φ b b'):VRl φ (a++b) (a'++b'):=by
 induction h with
 | nil=>exact k
 | cons h1 _ ih=>exact .cons h1 ih
theorem Turned.view {M N nb:Nat} {os szs S':List Nat}{LL:List Value}{bl H1:List Ob}{bs:List (Option Nat)}{o:List Own}{vs:List Value}
  (ht:Turned M N os szs LL bl bs o) (e1:bl.take M=H1) (hM:H1.length=M) (hbox:H1.all (boxD M)=true) (hvs:S'.map (lget LL)=vs) (hsc:vs.all (fun v=>notU v&&scT M v)=true)
  {K:Nat→Prop} {w0 w:World} {φ φ0:Phi} {tm:Array Value} (hF:Inv K w0 φ bl w) (hV:VRs φ LL.toArray tm)
  (h1:∀i y,i<M→φ0 i=some y→φ i=some y) (h2:∀B o,φ0.z B=some o→φ.z B=some o) (h3:∀i,M+nb≤i→φ0 i=none) :
  VRs (turnT φ φ0 M nb bs) (sets (junkF N (LL.map lo)) ((os++S').zip (ownVs (M+nb) szs o++vs))).toArray tm∧Inv K w0 (turnT φ φ0 M nb bs) (H1++List.replicate nb .dead++ownBs o) w:=by
 refine ⟨?_,?_⟩
 ·refine VRs.picks _ _ _ (VRs.lo ht.len hV) ?_ ?_
  ·rw[List.map_append]
   refine vrl_app ?_ ?_
   ·refine vrl_of fun i=>?_
    rw[List.getElem?_map]
    rcases Nat.lt_or_ge i o.length with hi | hi
    ·have hs:i<os.length:=by rw[ht.l1];exact hi
     have hz:i<szs.length:=by rw[ht.l3];exact hi
     rw[List.getElem?_eq_getElem hs]
     have hvi:=hV.getD os[i];rw[← lget_eq]at hvi
     show OR _ _ (some (tm.getD os[i] undef))
     generalize tm.getD os[i] undef=u at hvi ⊢
     cases ho:o[i] with
     | none =>
      have ho':o[i]?=some none:=by rw[List.getElem?_eq_getElem hi,ho]
      obtain ⟨_,q⟩:=ht.nil i os[i] (List.getElem?_eq_getElem hs) ho'
      rw[(ownVs_get (M+nb) szs o i ht.l3).1 szs[i] (List.getElem?_eq_getElem hz) ho']
      rw[q]at hvi
      exact .some (by cases hvi;exact .sliceN)
     | some al =>
      obtain ⟨a,l⟩:=al
      have ho':o[i]?=some (some (a,l)):=by rw[List.getElem?_eq_getElem hi,ho]
      obtain ⟨b,z,q1,q2,q3,_,_,_⟩:=ht.own i os[i] a l (List.getElem?_eq_getElem hs) ho'
      rw[(ownVs_get (M+nb) szs o i ht.l3).2 z a l q2 ho'];rw[q3]at hvi;have hp:=turnT_own (φ:=φ) (φ0:=φ0) (M:=M) (nb:=nb) q1
      refine .some ?_
      cases hvi with
      | sliceZ hp' a2 c2'=>exact .sliceZ (a:=⟨M+nb+i,0,none⟩) (hp.trans hp') a2 _
      | slice hp' hl' hc'=>exact .slice (hp.trans hp') hl' hc'
    ·rw[List.getElem?_eq_none (by rw[ownVs_len _ _ _ ht.l3];exact hi),List.getElem?_eq_none (by rw[ht.l1];exact hi)]
     exact .none
   ·rw[← hvs]
    refine vrl_of fun i=>?_
    rw[List.getElem?_map,List.getElem?_map]
    cases hi:S'[i]? with
    | none=>exact .none
    | some s =>
     refine .some ?_
     have hvi:=hV.getD s;rw[← lget_eq]at hvi;rw[List.all_eq_true]at hsc
     have:=hsc (lget LL s) (by rw[← hvs];exact List.mem_map_of_mem (List.mem_of_getElem? hi))
     rw[Bool.and_eq_true]at this;exact (scT_cut this.2 hvi).mono turnT_cut
  ·rw[List.all_append,ownVs_notU,Bool.true_and]
   rw[List.all_eq_true]at hsc ⊢;intro v hv;have:=hsc v hv;rw[Bool.and_eq_true]at this;exact this.1
 ·have hget:∀{i:Nat} {ob:Ob},(H1++List.replicate nb Ob.dead++ownBs o)[i]?=some ob→ob.live=true→(i<M∧H1[i]?=some ob)∨∃k a l,i=M+nb+k∧o[k]?=some (some (a,l))∧ob=.cells a false:=by
   intro i ob hi hl
   rcases get_app hi with ⟨_,h2⟩ | ⟨g1,h2⟩
   ·rcases get_app h2 with ⟨g3,h4⟩ | ⟨g3,h4⟩
    ·exact .inl ⟨by omega,h4⟩
    ·rw[List.getElem?_replicate]at h4
     split at h4
     ·simp only[Option.some.injEq]at h4;subst h4;cases hl
     ·cases h4
   ·rw[List.length_append,List.length_replicate,hM]at g1 h2
    unfold ownBs at h2
    rw[List.getElem?_map,Option.map_eq_some_iff]at h2
    obtain ⟨u,hu,e⟩:=h2
    cases u with
    | none=>subst e;cases hl
    | some al=>obtain ⟨a,l⟩:=al;exact .inr ⟨_,a,l,by omega,hu,e.symm⟩
  have hos:∀{k:Nat} {u:Own},o[k]?=some u→∃s,os[k]?=some s:=by
   intro k u hu
   have:k<o.length:=(List.getElem?_eq_some_iff.1 hu).1
   exact ⟨_,List.getElem?_eq_getElem (by rw[ht.l1];exact this)⟩
  have hκ:∀{k b:Nat},bs[k]?=some (some b)→(if M+nb+k<M then M+nb+k else match bs[M+nb+k-(M+nb)]? with | some (some b)=>b | _=>M+nb+k)=b:=by
   intro k b hb
   rw[if_neg (by omega),show M+nb+k-(M+nb)=k by omega,hb]
  have hback:∀{i:Nat} {ob:Ob},(H1++List.replicate nb Ob.dead++ownBs o)[i]?=some ob→ob.live=true→∃ob',bl[if i<M then i else match bs[i-(M+nb)]? with | some (some b)=>b | _=>i]?=some ob'∧ob'.live=true∧(ob.rw=true→ob'.rw=true)∧turnT φ φ0 M nb bs i=φ (if i<M then i else match bs[i-(M+nb)]? with | some (some b)=>b | _=>i)∧∀B base tot,ObR φ w ob' B base tot→ObR (turnT φ φ0 M nb bs) w ob B base tot:=by
   intro i ob hi hl
   rcases hget hi hl with ⟨hiM,h4⟩ | ⟨k,a,l,rfl,h4,rfl⟩
   ·rw[if_pos hiM]
    obtain ⟨_,k2⟩:=take_get e1 h4
    exact ⟨ob,k2,hl,fun h=>h,turnT_lt hiM,fun B base tot hr=>(obSc_cut (boxD_live (all_boxD hbox h4) hl).2 hr).keep turnT_cut rfl⟩
   ·obtain ⟨s,hs⟩:=hos h4
    obtain ⟨b,z,q1,q2,q3,q4,q5,q6⟩:=ht.own k s a l hs h4;rw[hκ q1]
    exact ⟨_,q5,rfl,fun _=>rfl,turnT_own q1,fun B base tot hr=>(obSc_cut (own_sc q6 M) hr).keep turnT_cut rfl⟩
  refine hF.view (κ:=fun i=>if i<M then i else match bs[i-(M+nb)]? with | some (some b)=>b | _=>i) (fun i ob hi hl=>hback hi hl) (fun i i' ob ob' hi hi' hl hl' he=>?_) (fun i hi=>?_) hF.frz (fun i ob y hi hrw hy=>?_) hF.zk
  ·rcases hget hi hl with ⟨hiM,_⟩ | ⟨k,a,l,rfl,h4,rfl⟩<;>rcases hget hi' hl' with ⟨hiM',_⟩ | ⟨k',a',l',rfl,h4',rfl⟩
   ·simp only[if_pos hiM,if_pos hiM']at he;exact he
   ·obtain ⟨s,hs⟩:=hos h4'
    obtain ⟨b,z,q1,q2,q3,q4,_⟩:=ht.own k' s a' l' hs h4';simp only[if_pos hiM]at he;rw[hκ q1]at he;omega
   ·obtain ⟨s,hs⟩:=hos h4
    obtain ⟨b,z,q1,q2,q3,q4,_⟩:=ht.own k s a l hs h4;simp only[if_pos hiM']at he;rw[hκ q1]at he;omega
   ·obtain ⟨s,hs⟩:=hos h4
    obtain ⟨b,z,q1,_⟩:=ht.own k s a l hs h4;obtain ⟨s',hs'⟩:=hos h4';obtain ⟨b',z',q1',_⟩:=ht.own k' s' a' l' hs' h4'
    have he2:b=b':=by
     have:=he;rw[hκ q1,hκ q1']at this;exact this
    subst he2;have:=ht.inj k k' b q1 q1'
    omega
  ·rw[List.length_append,List.length_append,hM,List.length_replicate,ownBs_len]at hi
   exact turnT_top (by rw[ht.l2];exact hi)
  ·obtain ⟨ob',k1,k2,k3,k5,_⟩:=hback hi (Ob.live_of_rw hrw)
   rw[k5]at hy;exact hF.zsep _ ob' y k1 (k3 hrw) hy
def ownK (M:Nat)(bl:List Ob)(LL:List Value):List Nat→List Nat→(List (Option Nat)→List Own→Option Out)→Option Out
 | s::r,z::zs,k=>(match lget LL s with
  | .slice none 0 0=>ownK M bl LL r zs fun bs o=>k (none::bs) (none::o)
  | .slice (some ⟨b,0,none⟩) l z'=>(match Nat.ble M b,Nat.beq z z',nthO bl b with
   | true,true,some (.cells a false)=>cond (allFz a) (ownK M bl LL r zs fun bs o=>k (some b::bs) (some (a,l)::o)) none
   | _,_,_=>none)
  | _=>none)
 | [],[],k=>k [] []
 | _,_,_=>none
def distB:List (Option Nat)→Bool
 | []=>true
 | none::r=>distB r
 | some b::r=>(r.all fun x=>match x with | some b'=>!(Nat.beq b b') | none=>true)&&distB r
theorem distB_ok:∀{bs:List (Option Nat)},distB bs=true→∀(i i' b:Nat),bs[i]?=some (some b)→bs[i']?=some (some b)→i=i'
 | [],_,i,i',b,h1,_=>by simp at h1
 | none::r,h,i,i',b,h1,h2=>by
  cases i with
  | zero=>simp at h1
  | succ i=>cases i' with
   | zero=>simp at h2
   | succ i'=>rw[distB_ok (bs:=r) h i i' b (by simpa using h1) (by simpa using h2)]
 | some c::r,h,i,i',b,h1,h2=>by
  unfold distB at h;rw[Bool.and_eq_true,List.all_eq_true]at h
  have no:∀k:Nat,r[k]?=some (some c)→False:=fun k hk=>by
   have:=h.1 _ (List.mem_of_getElem? hk)
   simp at this
  cases i with
  | zero =>
   simp only[List.getElem?_cons_zero,Option.some.injEq]at h1
   subst h1
   cases i' with
   | zero=>rfl
   | succ i'=>exact (no i' (by simpa using h2)).elim
  | succ i=>cases i' with
   | zero =>
    simp only[List.getElem?_cons_zero,Option.some.injEq]at h2
    subst h2
    exact (no i (by simpa using h1)).elim
   | succ i'=>rw[distB_ok (bs:=r) h.2 i i' b (by simpa using h1) (by simpa using h2)]
theorem ownK_ok {M:Nat}{bl:List Ob}{LL:List Value}:∀{os szs:List Nat}{k:List (Option Nat)→List Own→Option Out}{r:Out},ownK M bl LL os szs k=some r →
  ∃bs o,k bs o=some r∧os.length=o.length∧bs.length=o.length∧szs.length=o.length ∧
   (∀(i s:Nat),os[i]?=some s→o[i]?=some none→bs[i]?=some none∧lget LL s=.slice none 0 0) ∧
   (∀(i s:Nat) (a:Array Value) (l:Nat),os[i]?=some s→o[i]?=some (some (a,l))→∃b z,bs[i]?=some (some b)∧szs[i]?=some z∧lget LL s=.slice (some ⟨b,0,none⟩) l z∧M≤b∧bl[b]?=some (.cells a false)∧allFz a=true)
 | s::os,z::szs,k,r,h=>by
  unfold ownK at h
  split at h
  ·rename_i hv
   obtain ⟨bs,o,h1,h2,h3,h4,h5,h6⟩:=ownK_ok h
   refine ⟨none::bs,none::o,h1,by simp [h2],by simp [h3],by simp [h4],fun i s' hs ho=>?_,fun i s' a l hs ho=>?_⟩
   ·cases i with
    | zero=>simp only[List.getElem?_cons_zero,Option.some.injEq]at hs;subst hs;exact ⟨rfl,hv⟩
    | succ i=>exact h5 i s' (by simpa using hs) (by simpa using ho)
   ·cases i with
    | zero=>simp at ho
    | succ i=>exact h6 i s' a l (by simpa using hs) (by simpa using ho)
  ·rename_i b l z' hv
   split at h
   case h_2=>cases h
   rename_i a hMb hz hb;rw[nthO_eq]at hb;obtain ⟨ha,h⟩:=cond_some h;obtain ⟨bs,o,h1,h2,h3,h4,h5,h6⟩:=ownK_ok h;obtain rfl:=Nat.eq_of_beq_eq_true hz
   refine ⟨some b::bs,some (a,l)::o,h1,by simp [h2],by simp [h3],by simp [h4],fun i s' hs ho=>?_,fun i s' a' l' hs ho=>?_⟩
   ·cases i with
    | zero=>simp at ho
    | succ i=>exact h5 i s' (by simpa using hs) (by simpa using ho)
   ·cases i with
    | zero =>
     simp only[List.getElem?_cons_zero,Option.some.injEq,Prod.mk.injEq]at hs ho
     subst hs;obtain ⟨rfl,rfl⟩:=ho;exact ⟨b,z,rfl,rfl,hv,Nat.le_of_ble_eq_true hMb,hb,ha⟩
    | succ i=>exact h6 i s' a' l' (by simpa using hs) (by simpa using ho)
  ·cases h
 | [],[],k,r,h=>⟨[],[],h,rfl,rfl,rfl,fun i s hs=>by simp at hs,fun i s a l hs=>by simp at hs⟩
 | [],_::_,k,r,h=>by cases h
 | _::_,[],k,r,h=>by cases h
theorem own_eq:∀{b:Nat}{szs:List Nat} {o o':List Own},szs.length=o.length→szs.length=o'.length→ownVs b szs o=ownVs b szs o'→ownBs o=ownBs o'→o=o'
 | _,[],[],[],_,_,_,_=>rfl
 | b,z::zs,none::r,none::r',h1,h2,h3,h4=>by
  simp only[ownVs,List.cons.injEq,true_and]at h3
  rw[own_eq (b:=b+1) (szs:=zs) (by simpa using h1) (by simpa using h2) h3 (by simpa [ownBs] using h4)]
 | b,z::zs,some (a,l)::r,some (a',l')::r',h1,h2,h3,h4=>by
  simp only[ownVs,List.cons.injEq,Value.slice.injEq,true_and,and_true]at h3;simp only[ownBs,List.map_cons,List.cons.injEq,Ob.cells.injEq,and_true]at h4
  rw[own_eq (b:=b+1) (szs:=zs) (by simpa using h1) (by simpa using h2) h3.2 h4.2,h3.1,h4.1]
 | b,z::zs,none::r,some (a',l')::r',h1,h2,h3,h4=>by simp [ownVs]at h3
 | b,z::zs,some (a,l)::r,none::r',h1,h2,h3,h4=>by simp [ownVs]at h3
 | _,[],_::_,_,h1,_,_,_=>by simp at h1
 | _,[],[],_::_,_,h2,_,_=>by simp at h2
 | _,_::_,[],_,h1,_,_,_=>by simp at h1
 | _,_::_,_::_,[],_,h2,_,_=>by simp at h2
section
variable {X D:Type}
structure LoopT (X D:Type) where
 c:Code
 N:Nat
 M:Nat
 S:List Nat
 Bs:List Nat
 os:List Nat
 szs:List Nat
 sl:X→List Value
 hp:X→List Ob
 own:X→List Own
 ex:D→Ex
 pick:Ex→List Nat
 dv:D→List Value
 dh:D→List Ob
 od:D→List Own
def LoopT.H (L:LoopT X D)(x:X):List Ob:=L.hp x++ownBs (L.own x)
def LoopT.H0 (L:LoopT X D)(x:X):List Ob:=L.hp x++ownP (L.own x)
def LoopT.good (L:LoopT X D)(x:X):Prop:=gB L.Bs (L.hp x)=true∧∀a l,some (a,l)∈L.own x→allFz a=true
def LoopT.headT (L:LoopT X D)(x:X)(j:List Value):Task:=.code none L.c ⟨sets (junkF L.N j) ((L.os++L.S).zip (ownVs L.M L.szs (L.own x)++L.sl x)),[],⟨L.H x,0,[]⟩⟩
def LoopT.encT (L:LoopT X D):Sum X D→Out
 | .inl x=>.ex .normal ⟨ownVs L.M L.szs (L.own x)++L.sl x,[],⟨L.hp x++ownBs (L.own x),L.N,[]⟩⟩
 | .inr d=>.ex (L.ex d) ⟨ownVs L.M L.szs (L.od d)++L.dv d,[],⟨L.dh d++ownBs (L.od d),L.N,[]⟩⟩
def kT (N M:Nat)(S:List Nat)(pick:Ex→List Nat)(Bs os szs:List Nat):Kn
 | .ex e s=>match s.d,lenIs s.t N with
  | [],true=>ownK M s.h.bl s.t os szs fun bs o=>cond (distB bs) (gC (s.h.bl.take M) (some (.ex e ⟨ownVs M szs o++(match e with | .normal=>S | e=>pick e).map (lget s.t),[],⟨s.h.bl.take M++ownBs o,N,s.h.wr⟩⟩)) Bs) none
  | _,_=>none
 | _=>none
def LoopT.tailT (L:LoopT X D)(x:X)(d:D)(j:List Value)(b:Nat)(w:List Nat):Out :=
 .ex (L.ex d) ⟨sets (junkF L.N j) ((L.os++L.pick (L.ex d)).zip (ownVs (L.M+(ownP (L.own x)).length) L.szs (L.od d)++L.dv d)),[],⟨L.dh d++List.replicate (ownP (L.own x)).length .dead++ownBs (L.od d),b,w⟩⟩
structure LoopT.OkT (L:LoopT X D):Prop where
 s2:∀x,(L.sl x).all (fun v=>notU v&&scT L.M v)=true
 s1:∀x,(L.sl x).length=L.S.length
 h1:∀x,(L.hp x).length=L.M
 h2:∀x,gB L.Bs (L.hp x)=true→(L.hp x).all (boxD L.M)=true
 o1:∀x,(L.own x).length=L.os.length
 o2:L.szs.length=L.os.length
 o3:∀d,(L.od d).length=L.os.length
 d1:∀d,(L.dv d).all (fun v=>notU v&&scT L.M v)=true
 d2:∀d,(L.dh d).length=L.M
 d3:∀d,gB L.Bs (L.dh d)=true→(L.dh d).all (boxD L.M)=true
 e1:∀d,L.ex d≠.normal
 e2:∀d,noPanic (L.ex d)=true
theorem kT_turn {N M:Nat}{S:List Nat}{pick:Ex→List Nat}{Bs os szs:List Nat} {e e':Ex}{LL:List Value}{bl H1:List Ob} {b1 N':Nat} {wr wr':List Nat} {o':List Own}{vs:List Value}
  (h:kT N M S pick Bs os szs (.ex e ⟨LL,[],⟨bl,b1,wr⟩⟩)=some (.ex e' ⟨ownVs M szs o'++vs,[],⟨H1++ownBs o',N',wr'⟩⟩)) (hM:H1.length=M) (ho':o'.length=os.length) (hz:szs.length=os.length) :
  e=e'∧gB Bs H1=true∧bl.take M=H1∧(match e with | .normal=>S | e=>pick e).map (lget LL)=vs∧∃bs,Turned M N os szs LL bl bs o':=by
 unfold kT at h;simp only at h
 split at h
 case h_2=>cases h
 rename_i hlen;have k4:=lenIs_eq _ _ hlen;obtain ⟨bs,o,h1,h2,h3,h4,h5,h6⟩:=ownK_ok h;obtain ⟨hd,h1⟩:=cond_some h1;obtain ⟨g1,g2⟩:=gC_ok h1;simp only[Option.some.injEq,Out.ex.injEq,St.mk.injEq,Hp.mk.injEq,true_and]at g2;obtain ⟨q0,q1,q2,_⟩:=g2
 have hl2:(bl.take M).length=H1.length:=by
  have:=congrArg List.length q2;rw[List.length_append,List.length_append,ownBs_len,ownBs_len]at this
  omega
 obtain ⟨q3,q4⟩:=List.append_inj q2 hl2
 obtain ⟨q5,q6⟩:=List.append_inj q1 (by rw[ownVs_len _ _ _ h4,ownVs_len _ _ _ (by omega)];omega)
 obtain rfl:=own_eq h4 (by omega) q5 q4
 exact ⟨q0,by rw[← q3];exact g1,q3,q6,bs,⟨k4,h2,h3,h4,h5,h6,distB_ok hd⟩⟩
section
variable {P:Program}(hN:NoNG P) (hm:P.follows .mixedOrders=true)
include hN hm
theorem LoopT.sem {L:LoopT X D}(ok:L.OkT) {a:Ans}(hk:Known P a) {n:Nat}{rd:X→RT (Sum X D)}
  (hr:∀x j,L.good x→evC P a.c n (L.headT x j) (kT L.N L.M L.S L.pick L.Bs L.os L.szs)=(rd x).out L.encT):∀{m:Nat} {x:X} {d:D},loopV rd m x=some d→L.good x →
  ∀{t:List Value} {bl:List Ob} {bs:List (Option Nat)},Turned L.M L.N L.os L.szs t bl bs (L.own x)→bl.take L.M=L.hp x→L.S.map (lget t)=L.sl x→∃j,gB L.Bs (L.dh d)=true∧∀(K:Nat→Prop) (w0:World) (φ φ0:Phi) (w:World) (ac:Act) (F:Fence) (n:Nat) (nb:Nat),
   Inv K w0 φ bl w→VRs φ t.toArray ac.tmps→DRs φ [] ac.defers→FenceOk φ none F→(∀i y,i<L.M→φ0 i=some y→φ i=some y)→(∀B o,φ0.z B=some o→φ.z B=some o)→(∀i,L.M+nb≤i→φ0 i=none) →
   wpLoopIn F n P L.c (CodeR K w0 φ0 (L.ex d) ⟨sets (junkF L.N j) ((L.os++L.pick (L.ex d)).zip (ownVs (L.M+nb) L.szs (L.od d)++L.dv d)),[],⟨L.dh d++List.replicate nb .dead++ownBs (L.od d),0,[]⟩⟩) ac w
 | 0,_,_,h,_,_,_,_,_,_,_=>by cases h
 | m+1,x,d,h,hx,t,bl0,bs0,ht,hbl,hS=>by
  have hev:∀{y:Sum X D},(rd x).val=some y→∃e LL bl b1 wr,Fact P (L.headT x (t.map lo)) (.ex e ⟨LL,[],⟨bl,b1,wr⟩⟩)∧kT L.N L.M L.S L.pick L.Bs L.os L.szs (.ex e ⟨LL,[],⟨bl,b1,wr⟩⟩)=some (L.encT y):=by
   intro y hy;have h1:=hr x (t.map lo) hx;rw[RT.out_val,hy,Option.map_some]at h1;obtain ⟨o,h2,hf⟩:=hk.factK hN hm h1;have h3:=h2;unfold kT at h3
   split at h3
   case h_2=>cases h3
   rename_i e s
   split at h3
   case h_2=>cases h3
   rename_i hd _;obtain ⟨LL,d0,⟨bl,b1,wr1⟩⟩:=s;simp only at hd;subst hd;exact ⟨e,LL,bl,b1,wr1,hf,h2⟩
  have dnil:∀{φ ψ:Phi} {l:List Deferred},DRs φ [] l→DRs ψ [] l:=fun h=>by cases h;exact .nil
  have hst:∀{K:Nat→Prop} {w0 w:World} {φ:Phi} {tm:Array Value},Inv K w0 φ bl0 w→VRs φ t.toArray tm→VRs (turnT φ (cut φ L.M) L.M 0 bs0) (sets (junkF L.N (t.map lo)) ((L.os++L.S).zip (ownVs L.M L.szs (L.own x)++L.sl x))).toArray tm∧Inv K w0 (turnT φ (cut φ L.M) L.M 0 bs0) (L.H x) w:=by
   intro K w0 w φ tm hI hV
   have:=ht.view (nb:=0) (S':=L.S) hbl (ok.h1 x) (ok.h2 x hx.1) hS (ok.s2 x) hI hV (φ0:=cut φ L.M) (fun i y hi h0=>by rw[cut_lt hi]at h0;exact h0) (fun B o h0=>h0) (fun i hi=>cut_ge (by omega))
   simp only[Nat.add_zero,List.replicate_zero,List.append_nil]at this;exact this
  unfold loopV at h
  split at h
  ·rename_i y hy
   obtain ⟨e,LL,bl,b1,wr,hf,hks⟩:=hev hy;obtain ⟨rfl,hgy,hty,hsy,bs,htn⟩:=kT_turn hks (ok.h1 y) (ok.o1 y) ok.o2
   have hgood:L.good y:=⟨hgy,fun a l hal=>by
    obtain ⟨i,hi⟩:=List.mem_iff_getElem?.1 hal
    have hio:i<(L.own y).length:=(List.getElem?_eq_some_iff.1 hi).1
    obtain ⟨_,_,_,_,_,_,_,q⟩:=htn.own i _ a l (List.getElem?_eq_getElem (by rw[htn.l1];exact hio)) hi
    exact q⟩
   obtain ⟨j,hgd,hj⟩:=LoopT.sem ok hk hr h hgood htn hty hsy
   refine ⟨j,hgd,fun K w0 φ φ0 w ac F n nb hI hV hD hF ha hz htop=>?_⟩
   obtain ⟨_,hh⟩:=hf.1 (Nat.zero_le _);obtain ⟨hV1,hI1⟩:=hst hI hV
   refine rounds_of (wpIn_mono (hh K w0 _ w ac F n hI1 hV1 (dnil hD) hF) ?_)
   rintro x' a' w' ⟨φ',hle,hx',ht',hd',hI'⟩
   cases hx'
   show wpLoopIn F n P L.c _ a' w'
   refine hj K w0 φ' φ0 w' a' F n nb hI' ht' (dnil hd') hF (fun i y hi h0=>?_) (fun B o h0=>hle.zz B o (hz B o h0)) htop
   exact hle _ _ ((turnT_lt hi).trans (ha i y hi h0))
  ·rename_i d' hd
   simp only[Option.some.injEq]at h;subst h;obtain ⟨e,LL,bl,b1,wr,hf,hks⟩:=hev hd;obtain ⟨rfl,hgd,htd,hsd,bs,htn⟩:=kT_turn hks (ok.d2 d') (ok.o3 d') ok.o2;have hne:=ok.e1 d'
   have hsd2:(L.pick (L.ex d')).map (lget LL)=L.dv d':=by
    revert hsd hne
    generalize L.ex d'=q
    intro hsd hne
    cases q<;>first | exact absurd rfl hne | exact hsd
   refine ⟨LL.map lo,hgd,fun K w0 φ φ0 w ac F n nb hI hV hD hF ha hz htop=>?_⟩
   obtain ⟨_,hh⟩:=hf.1 (Nat.zero_le _);obtain ⟨hV1,hI1⟩:=hst hI hV
   refine rounds_of (wpIn_mono (hh K w0 _ w ac F n hI1 hV1 (dnil hD) hF) ?_)
   rintro x' a' w' ⟨φ',hle,hx',ht',hd',hI'⟩
   have c1:∀i y,i<L.M→φ0 i=some y→φ' i=some y:=fun i y hi h0=>hle _ _ ((turnT_lt hi).trans (ha i y hi h0))
   have c2:∀B o,φ0.z B=some o→φ'.z B=some o:=fun B o h0=>hle.zz B o (hz B o h0)
   obtain ⟨p2,p3⟩:=htn.view (nb:=nb) (S':=L.pick (L.ex d')) htd (ok.d2 d') (ok.d3 d' hgd) hsd2 (ok.d1 d') hI' ht' c1 c2 htop;have hc:CodeR K w0 φ0 (L.ex d') ⟨sets (junkF L.N (LL.map lo)) ((L.os++L.pick (L.ex d')).zip (ownVs (L.M+nb) L.szs (L.od d')++L.dv d')),[],⟨L.dh d'++List.replicate nb .dead++ownBs (L.od d'),0,[]⟩⟩ x' a' w':=⟨_,turnT_le c1 c2 htop,hx'.any (ok.e2 d'),p2,dnil hd',p3⟩
   revert hc
   generalize CodeR K w0 φ0 (L.ex d') ⟨sets (junkF L.N (LL.map lo)) ((L.os++L.pick (L.ex d')).zip (ownVs (L.M+nb) L.szs (L.od d')++L.dv d')),[],⟨L.dh d'++List.replicate nb .dead++ownBs (L.od d'),0,[]⟩⟩=Q
   intro hc
   generalize L.ex d'=q at hx' hne
   cases hx' with
   | normal=>exact absurd rfl hne
   | _=>exact hc
  ·cases h
omit hN hm in
theorem ownI_ge:∀(b:Nat) (o:List Own)(i c:Nat),(ownI b o)[i]?=some (some c)→b≤c
 | b,[],i,c,h=>by simp [ownI]at h
 | b,none::r,0,c,h=>by simp [ownI]at h
 | b,none::r,i+1,c,h=>ownI_ge b r i c (by simpa [ownI] using h)
 | b,some _::r,0,c,h=>by simp only[ownI,List.getElem?_cons_zero,Option.some.injEq]at h;omega
 | b,some _::r,i+1,c,h=>by have:=ownI_ge (b+1) r i c (by simpa [ownI] using h);omega
omit hN hm in
theorem ownI_inj:∀(b:Nat) (o:List Own) (i i' c:Nat),(ownI b o)[i]?=some (some c)→(ownI b o)[i']?=some (some c)→i=i'
 | b,[],i,i',c,h,_=>by simp [ownI]at h
 | b,none::r,i,i',c,h,h'=>by
  cases i with
  | zero=>simp [ownI]at h
  | succ i=>cases i' with
   | zero=>simp [ownI]at h'
   | succ i'=>rw[ownI_inj b r i i' c (by simpa [ownI] using h) (by simpa [ownI] using h')]
 | b,some _::r,i,i',c,h,h'=>by
  cases i with
  | zero =>
   simp only[ownI,List.getElem?_cons_zero,Option.some.injEq]at h
   cases i' with
   | zero=>rfl
   | succ i'=>have:=ownI_ge (b+1) r i' c (by simpa [ownI] using h');omega
  | succ i=>cases i' with
   | zero =>
    simp only[ownI,List.getElem?_cons_zero,Option.some.injEq]at h'
    have:=ownI_ge (b+1) r i c (by simpa [ownI] using h);omega
   | succ i'=>rw[ownI_inj (b+1) r i i' c (by simpa [ownI] using h) (by simpa [ownI] using h')]
omit hN hm in
theorem ownW_get:∀(b:Nat) (zs:List Nat)(o:List Own)(i:Nat),zs.length=o.length→(o[i]?=some none→(ownI b o)[i]?=some none∧(ownW b zs o)[i]?=some (.slice none 0 0)) ∧
  (∀a l,o[i]?=some (some (a,l))→∃c z,(ownI b o)[i]?=some (some c)∧zs[i]?=some z∧(ownW b zs o)[i]?=some (.slice (some ⟨c,0,none⟩) l z)∧b≤c∧(ownP o)[c-b]?=some (.cells a false))
 | b,[],[],i,_=>⟨fun h=>by simp at h,fun a l h=>by simp at h⟩
 | b,z::zs,none::r,0,h=>⟨fun _=>⟨rfl,rfl⟩,fun a l h2=>by simp at h2⟩
 | b,z::zs,some (a,l)::r,0,h=>⟨fun h2=>by simp at h2,fun a' l' h2=>by
  simp only[List.getElem?_cons_zero,Option.some.injEq,Prod.mk.injEq]at h2
  obtain ⟨rfl,rfl⟩:=h2
  exact ⟨b,z,rfl,rfl,rfl,Nat.le_refl _,by rw[Nat.sub_self];rfl⟩⟩
 | b,z::zs,none::r,i+1,h=>by
  have:=ownW_get b zs r i (by simpa using h)
  refine ⟨fun h2=>?_,fun a l h2=>?_⟩
  ·exact this.1 (by simpa using h2)
  ·exact this.2 a l (by simpa using h2)
 | b,z::zs,some (a0,l0)::r,i+1,h=>by
  have:=ownW_get (b+1) zs r i (by simpa using h)
  refine ⟨fun h2=>?_,fun a l h2=>?_⟩
  ·exact this.1 (by simpa using h2)
  ·obtain ⟨c,z',q1,q2,q3,q4,q5⟩:=this.2 a l (by simpa using h2)
   refine ⟨c,z',q1,q2,q3,by omega,?_⟩
   show ((Ob.cells a0 false)::ownP r)[c-b]?=_
   rw[show c-b=(c-(b+1))+1 by omega,List.getElem?_cons_succ]
   exact q5
omit hN hm in
theorem ownW_len:∀(b:Nat) (zs:List Nat)(o:List Own),zs.length=o.length→(ownW b zs o).length=o.length
 | _,[],[],_=>rfl
 | b,z::zs,none::r,h=>by simp only[ownW,List.length_cons];rw[ownW_len b zs r (by simpa using h)]
 | b,z::zs,some (a,l)::r,h=>by simp only[ownW,List.length_cons];rw[ownW_len (b+1) zs r (by simpa using h)]
omit hN hm in
theorem zip_all {T:List Value}:∀{S:List Nat}{vs:List Value},S.length=vs.length→(∀kv∈S.zip vs,lget T kv.1=kv.2)→S.map (lget T)=vs
 | [],[],_,_=>rfl
 | s::S,v::vs,hl,h=>by
  rw[List.map_cons,h (s,v) (by simp),zip_all (S:=S) (vs:=vs) (by simpa using hl) fun kv hkv=>h kv (by rw[List.zip_cons_cons];exact List.mem_cons_of_mem _ hkv)]
omit hN hm in
theorem LoopT.first {L:LoopT X D}(ok:L.OkT) {x:X}(hx:L.good x) {T:List Value}(hT:T.length=L.N) (hS:∀kv∈(L.os++L.S).zip (ownW L.M L.szs (L.own x)++L.sl x),lget T kv.1=kv.2) :
  Turned L.M L.N L.os L.szs T (L.H0 x) (ownI L.M (L.own x)) (L.own x)∧(L.H0 x).take L.M=L.hp x∧L.S.map (lget T)=L.sl x:=by
 have hz:L.szs.length=(L.own x).length:=by rw[ok.o2,ok.o1]
 have e:=zip_all (T:=T) (by rw[List.length_append,List.length_append,ownW_len _ _ _ hz,ok.o1,ok.s1]) hS
 rw[List.map_append]at e
 obtain ⟨e1,e2⟩:=List.append_inj e (by rw[List.length_map,ownW_len _ _ _ hz,ok.o1])
 have hsl:∀{i s:Nat},L.os[i]?=some s→(ownW L.M L.szs (L.own x))[i]?=some (lget T s):=by
  intro i s hs
  rw[← e1,List.getElem?_map,hs];rfl
 refine ⟨⟨hT,(ok.o1 x).symm,ownI_len _ _,hz,fun i s hs ho=>?_,fun i s a l hs ho=>?_,ownI_inj _ _⟩,by unfold LoopT.H0;rw[← ok.h1 x];exact List.take_left ..,e2⟩
 ·obtain ⟨q1,q2⟩:=(ownW_get L.M L.szs (L.own x) i hz).1 ho
  rw[hsl hs]at q2;exact ⟨q1,Option.some.inj q2⟩
 ·obtain ⟨c,z,q1,q2,q3,q4,q5⟩:=(ownW_get L.M L.szs (L.own x) i hz).2 a l ho
  rw[hsl hs]at q3
  refine ⟨c,z,q1,q2,Option.some.inj q3,q4,?_,hx.2 a l (List.mem_of_getElem? ho)⟩
  unfold LoopT.H0
  rw[List.getElem?_append_right (by rw[ok.h1];exact q4),ok.h1]
  exact q5
theorem LoopT.fact {L:LoopT X D}(ok:L.OkT) {a:Ans}(hk:Known P a) {n:Nat}{rd:X→RT (Sum X D)}
  (hr:∀x j,L.good x→evC P a.c n (L.headT x j) (kT L.N L.M L.S L.pick L.Bs L.os L.szs)=(rd x).out L.encT) {m:Nat} {x:X} {d:D} (h:loopV rd m x=some d) (hx:L.good x)
  {t:List Value} (ht:t.length=L.N) (hS:∀kv∈(L.os++L.S).zip (ownW L.M L.szs (L.own x)++L.sl x),lget t kv.1=kv.2):∃j,Fact P (.code none (.loop L.c) ⟨t,[],⟨L.H0 x,0,[]⟩⟩) (L.tailT x d j 0 []):=by
 obtain ⟨f1,f2,f3⟩:=LoopT.first ok hx ht hS;obtain ⟨j,hg,hj⟩:=LoopT.sem hN hm ok hk hr h hx f1 f2 f3
 have hlen:(L.H0 x).length=L.M+(ownP (L.own x)).length:=by unfold LoopT.H0;rw[List.length_append,ok.h1]
 have key:∀(K:Nat→Prop) (w0:World) (φ:Phi) (w:World) (ac:Act) (F:Fence) (n:Nat),Inv K w0 φ (L.H0 x) w→VRs φ t.toArray ac.tmps→DRs φ [] ac.defers→FenceOk φ none F →
   wpLoopIn F n P L.c (CodeR K w0 φ (L.ex d) ⟨sets (junkF L.N j) ((L.os++L.pick (L.ex d)).zip (ownVs (L.M+(ownP (L.own x)).length) L.szs (L.od d)++L.dv d)),[],⟨L.dh d++List.replicate (ownP (L.own x)).length .dead++ownBs (L.od d),0,[]⟩⟩) ac w:=fun K w0 φ w ac F n hI ht hd hF =>
  hj K w0 φ φ w ac F n (ownP (L.own x)).length hI ht hd hF (fun _ _ _ h=>h) (fun _ _ h=>h) fun i hi=>hI.top i (by rw[hlen];exact hi)
 refine ⟨j,fun _=>⟨⟨rfl,?_,fun b hb _=>absurd hb (Nat.not_lt_zero _),fun b ob hb hl hrw=>?_⟩,fun K w0 φ w ac F n hI ht hd hF=>wpIn_of_rounds (key K w0 φ w ac F n hI ht hd hF)⟩,fun _ K w0 φ w ac F n hI ht hd hF=>key K w0 φ w ac F n hI ht hd hF⟩
 ·show (L.H0 x).length≤(L.dh d++List.replicate (ownP (L.own x)).length Ob.dead++ownBs (L.od d)).length
  rw[hlen,List.length_append,List.length_append,ok.d2,List.length_replicate];exact Nat.le_add_right _ _
 ·exfalso
  rcases get_app hb with ⟨_,h2⟩ | ⟨_,h2⟩
  ·rcases get_app h2 with ⟨_,h2⟩ | ⟨_,h2⟩
   ·rw[(boxD_live (all_boxD (ok.d3 d hg) h2) hl).1]at hrw;cases hrw
   ·rw[List.getElem?_replicate]at h2
    split at h2
    ·simp only[Option.some.injEq]at h2;subst h2;cases hl
    ·cases h2
  ·unfold ownBs at h2
   rw[List.getElem?_map,Option.map_eq_some_iff]at h2
   obtain ⟨u,_,e⟩:=h2
   cases u with
   | none=>subst e;cases hl
   | some al=>subst e;cases hrw
theorem LoopT.known {L:LoopT X D}(ok:L.OkT) {a:Ans}(hk:Known P a) {n:Nat}{rd:X→RT (Sum X D)}
  (hr:∀x j,L.good x→evC P a.c n (L.headT x j) (kT L.N L.M L.S L.pick L.Bs L.os L.szs)=(rd x).out L.encT) {c0:Code} (bs:X→Nat) (ws:X→List Nat) (ws':X→List Nat) (hw:∀x,(bs x=0∧ws x=[]∧ws' x=[])∨ws' x=List.range (L.M+(ownP (L.own x)).length)++ws x) (dec:Task→Option (Code×X)) (alt:X→List Value→AT)
  (hd:∀t c x,dec t=some (c,x)→c=c0→∃T H',t=.code none (.loop L.c) ⟨T,[],⟨H',bs x,ws x⟩⟩∧Forgets H' (L.H0 x)∧T.length=L.N∧∀kv∈(L.os++L.S).zip (ownW L.M L.szs (L.own x)++L.sl x),lget T kv.1=kv.2)
  (ha:∀x j o,(alt x j).out=some o→L.good x∧∃d,loopR rd x=some d∧o=L.tailT x d j (bs x) (ws' x)) :
  ∃J:Task→List Value,Known P (loopAns c0 dec alt J):=by
 classical
 let good:Task→List Value→Prop:=fun t j=>∀c x d,dec t=some (c,x)→c=c0→L.good x→loopR rd x=some d→Fact P t (L.tailT x d j (bs x) (ws' x))
 have hex:∀t,∃j,good t j:=by
  intro t
  cases hdt:dec t with
  | none=>exact ⟨[],fun c x d h=>by rw[hdt]at h;cases h⟩
  | some cx =>
   obtain ⟨c,x⟩:=cx
   by_cases hc:c=c0
   ·by_cases hx:L.good x
    ·cases hl:loopR rd x with
     | none=>exact ⟨[],fun c' x' d h _ _ hr=>by rw[hdt]at h;cases h;rw[hl]at hr;cases hr⟩
     | some d =>
      obtain ⟨T,H',rfl,hg,hT,hS⟩:=hd t c x hdt hc;obtain ⟨m,hm'⟩:=loopR_some hl;obtain ⟨j,hj⟩:=LoopT.fact hN hm ok hk hr hm' hx hT hS
      refine ⟨j,fun c' x' d' h _ _ hr=>?_⟩
      rw[hdt]at h;cases h;rw[hl]at hr;cases hr
      rcases hw x with ⟨e1,e2,e3⟩ | e3
      ·rw[e1,e2,e3]
       exact hj.tells hg
      ·have:=Fact.rebase (b:=bs x) (w:=ws x) (hj.tells hg)
       have hlen:H'.length=L.M+(ownP (L.own x)).length:=by rw[hg.len];unfold LoopT.H0;rw[List.length_append,ok.h1]
       rw[hlen]at this;rw[e3];exact this
    ·exact ⟨[],fun c' x' d h _ h' _=>by rw[hdt]at h;cases h;exact absurd h' hx⟩
   ·exact ⟨[],fun c' x' d h h' _ _=>by rw[hdt]at h;cases h;exact absurd h' hc⟩
 refine ⟨fun t=>Classical.choose (hex t),?_⟩
 intro t at' o ht ho
 cases hdt:dec t with
 | none=>simp only[loopAns,hdt]at ht;cases ht
 | some cx =>
  obtain ⟨c,x⟩:=cx;simp only[loopAns,hdt,Option.some.injEq]at ht;subst ht;simp only[AT.out]at ho;obtain ⟨h1,h2⟩:=cond_some ho;obtain ⟨hx,d,h3,rfl⟩:=ha x _ o h2;exact Classical.choose_spec (hex t) c x d hdt (eqCode_eq h1) hx h3
end
end
def dI (q:IntKind)(v:Value):Option Int:=match v with
 | .int q' n=>(match decide (q'=q) with | true=>some n | false=>none)
 | _=>none
theorem dI_eq {q:IntKind}{v:Value}{n:Int}(h:dI q v=some n):v=.int q n:=by
 unfold dI at h
 split at h
 ·split at h
  ·rename_i hq
   simp only[Option.some.injEq]at h;rw[h,of_decide_eq_true hq]
  ·cases h
 ·cases h
def dBo (v:Value):Option Bool:=match v with
 | .bool b=>some b
 | _=>none
theorem dBo_eq {v:Value}{n:Bool}(h:dBo v=some n):v=.bool n:=by
 unfold dBo at h
 split at h
 ·simp only[Option.some.injEq]at h;rw[h]
 ·cases h
def dLs (z:Nat)(v:Value):Option (Array Value×Nat×Nat):=match v with
 | .func (.via 0 ⟨[]⟩ 0 true) c ⟨[.slice (some ⟨0,o,none⟩) n z']⟩=>(match Nat.beq z' z with | true=>some (c,o,n) | false=>none)
 | _=>none
theorem dLs_eq {z:Nat}{v:Value}{p:Array Value×Nat×Nat}(h:dLs z v=some p):v=lstV p.1 p.2.1 p.2.2 z:=by
 unfold dLs at h
 split at h
 ·split at h
  ·rename_i hz
   simp only[Option.some.injEq]at h;subst h;rw[Nat.eq_of_beq_eq_true hz]
  ·cases h
 ·cases h
theorem biI {β:Type}{q:IntKind}{v:Value}{f:Int→Option β}{r:β}(h:(dI q v).bind f=some r):∃n,v=.int q n∧f n=some r:=by
 obtain ⟨n,h1,h2⟩:=Option.bind_eq_some_iff.1 h;exact ⟨n,dI_eq h1,h2⟩
theorem biL {β:Type}{z:Nat}{v:Value}{f:Array Value×Nat×Nat→Option β}{r:β}(h:(dLs z v).bind f=some r):∃p,v=lstV p.1 p.2.1 p.2.2 z∧f p=some r:=by
 obtain ⟨n,h1,h2⟩:=Option.bind_eq_some_iff.1 h;exact ⟨n,dLs_eq h1,h2⟩
def dAg (v:Value):Option (List Value):=match v with
 | .agg ⟨l⟩=>some l
 | _=>none
theorem dAg_eq {v:Value}{l:List Value}(h:dAg v=some l):v=.agg ⟨l⟩:=by
 unfold dAg at h
 split at h
 ·simp only[Option.some.injEq]at h;rw[h]
 ·cases h
def dPt (b off:Nat)(v:Value):Option Unit:=match v with
 | .pointer (some ⟨b',off',none⟩)=>(match Nat.beq b' b,Nat.beq off' off with | true,true=>some () | _,_=>none)
 | _=>none
theorem dPt_eq {b off:Nat}{v:Value}{u:Unit}(h:dPt b off v=some u):v=.pointer (some ⟨b,off,none⟩):=by
 unfold dPt at h
 split at h
 ·split at h
  ·rename_i h1 h2
   rw[Nat.eq_of_beq_eq_true h1,Nat.eq_of_beq_eq_true h2]
  ·cases h
 ·cases h
def dNl (v:Value):Option Unit:=match v with
 | .slice none 0 0=>some ()
 | _=>none
theorem dNl_eq {v:Value}{u:Unit}(h:dNl v=some u):v=.slice none 0 0:=by
 unfold dNl at h
 split at h
 ·rfl
 ·cases h
def dSl (b z:Nat)(v:Value):Option Nat:=match v with
 | .slice (some ⟨b',0,none⟩) n z'=>(match Nat.beq b' b,Nat.beq z' z with | true,true=>some n | _,_=>none)
 | _=>none
theorem dSl_eq {b z n:Nat}{v:Value}(h:dSl b z v=some n):v=.slice (some ⟨b,0,none⟩) n z:=by
 unfold dSl at h
 split at h
 ·split at h
  ·rename_i h1 h2
   simp only[Option.some.injEq]at h;rw[Nat.eq_of_beq_eq_true h1,Nat.eq_of_beq_eq_true h2,h]
  ·cases h
 ·cases h
def dYi (l:Nat)(v:Value):Option Unit:=match v with
 | .func (.yield l') ⟨[]⟩ ⟨[]⟩=>(match Nat.beq l' l with | true=>some () | _=>none)
 | _=>none
def dFn (g:Nat)(v:Value):Option (List Value×List Value):=match v with
 | .func (.func g') ⟨a⟩ ⟨b⟩=>(match Nat.beq g' g with | true=>some (a,b) | _=>none)
 | _=>none
theorem dFn_eq {g:Nat}{v:Value}{p:List Value×List Value}(h:dFn g v=some p):v=.func (.func g) ⟨p.1⟩ ⟨p.2⟩:=by
 unfold dFn at h
 split at h
 ·split at h
  ·rename_i h1
   simp only[Option.some.injEq]at h;subst h;rw[Nat.eq_of_beq_eq_true h1]
  ·cases h
 ·cases h
def dCe (ob:Ob):Option (List Value):=match ob with
 | .cells ⟨l⟩ false=>some l
 | _=>none
theorem dCe_eq {ob:Ob}{l:List Value}(h:dCe ob=some l):ob=.cells ⟨l⟩ false:=by
 unfold dCe at h
 split at h
 ·simp only[Option.some.injEq]at h;rw[h]
 ·cases h
def dAr (ob:Ob):Option (Array Value):=match ob with
 | .cells c false=>some c
 | _=>none
theorem dAr_eq {ob:Ob}{l:Array Value}(h:dAr ob=some l):ob=.cells l false:=by
 unfold dAr at h
 split at h
 ·simp only[Option.some.injEq]at h;rw[h]
 ·cases h
end
end Go.Gi
