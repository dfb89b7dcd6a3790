/- Part 10 of the texts below the claim. Conditions: none. -/
import Derived.Test.YtnmjibcolnlkjaaMg6
import Derived.Test.YtnmjibcolnlkjaaMg9
set_option linter.unusedVariables false
set_option linter.unusedSimpArgs false
namespace Go.Gi
open Go.RowKit
noncomputable section
abbrev vT:Value:=.bool true
abbrev vF:Value:=.bool false
abbrev vI (n:Nat):Value:=.int .i64 (.ofNat n)
abbrev vJ (n:Nat):Value:=.int .i64 (.negSucc n)
structure CF where
  g:Nat
  args:List Value
  u:Value
def CF.Ok (P:Program)(c:CF):Prop:=∀h,Fact P (.call c.g ⟨c.args⟩ h) (.ret c.u h)
def lookCF (f:Nat)(vs:List Value)(h:Hp):List CF→Option AT
  | []=>none
  | c::r=>match Nat.beq f c.g with
    | true=>(match eqLs (eqVn 8) vs c.args with
      | true=>some (.leaf (.ret c.u h))
      | false=>lookCF f vs h r)
    | false=>lookCF f vs h r
def tabA (l:List CF):Ans:=fun t=>match t with
  | .call f vs h=>lookCF f vs.toList h l
  | _=>none
inductive CFs (P:Program):List CF→Prop
  | nil:CFs P []
  | cons {c:CF} {l:List CF} (h:c.Ok P) (r:CFs P l):CFs P (c::l)
theorem lookCF_ok {P:Program}{f:Nat}{vs:List Value}{h:Hp}:∀{l:List CF},CFs P l→∀{x:AT}{o:Out},lookCF f vs h l=some x→x.out=some o→Fact P (.call f ⟨vs⟩ h) o
  | [],_,x,o,hx,_=>by cases hx
  | c::r,hl,x,o,hx,ho=>by
    cases hl with
    | cons hc hr =>
      unfold lookCF at hx
      split at hx
      · rename_i hf
        split at hx
        · rename_i ha
          simp only [Option.some.injEq]at hx
          subst hx
          simp only [AT.out,Option.some.injEq]at ho
          subst ho
          rw [Nat.eq_of_beq_eq_true hf,eqLs_eq (fun _ _ h=>eqVn_eq h) ha]
          exact hc h
        · exact lookCF_ok hr hx ho
      · exact lookCF_ok hr hx ho
theorem tabA_ok {P:Program}{l:List CF}(hl:CFs P l):Known P (tabA l):=by
  intro t x o h ho
  unfold tabA at h
  split at h
  · rename_i f vs hh
    exact lookCF_ok hl h ho
  · cases h
def frDs (f:Value→Option Value):List Value→Option (List Value)
  | []=>some []
  | v::r=>match f v with
    | some u=>(match frDs f r with
      | some l=>some (u::l)
      | none=>none)
    | none=>none
def frC (f:Value→Option Value)(v:Value):Option Value:=match v with
  | .slice none 0 0=>some (lstV ⟨[]⟩ 0 0 1)
  | v=>f v
def frD (bl:List Ob):Nat→Value→Option Value
  | 0,_=>none
  | n+1,v=>match v with
    | .slice (some ⟨b,off,none⟩) len sz=>(match nthO bl b with
      | some (.cells c false)=>(match frDs (frC (frD bl n)) c.toList with
        | some l=>if off+len*sz≤c.size then some (lstV ⟨l⟩ off len sz) else none
        | none=>none)
      | _=>none)
    | .pointer (some ⟨b,off,none⟩)=>(match nthO bl b with
      | some (.cells c false)=>(match frDs (frC (frD bl n)) c.toList with
        | some l=>some (dptV ⟨l⟩ off)
        | none=>none)
      | _=>none)
    | .agg ⟨l⟩=>(match frDs (frD bl n) l with
      | some l=>some (.agg ⟨l⟩)
      | none=>none)
    | .iface t v=>(match frD bl n v with
      | some v=>some (.iface t v)
      | none=>none)
    | .func (.func g) ⟨l⟩ ⟨m⟩=>(match frDs (frD bl n) l,frDs (frD bl n) m with
      | some l,some m=>some (.func (.func g) ⟨l⟩ ⟨m⟩)
      | _,_=>none)
    | v=>if fz0 v then some v else none
def frDV (bl:List Ob)(v:Value):Option Value:=match v with
  | .tuple ⟨x::l⟩=>(match frDs (frD bl 8) (x::l) with
    | some l=>some (.tuple ⟨l⟩)
    | none=>none)
  | v=>frD bl 8 v
def frDK:Kn
  | .ret v h=>(match frDV h.bl v with
    | some v=>some (.ret v ⟨[],0,[]⟩)
    | none=>none)
  | _=>none
section
variable {K:Nat→Prop}{w0 w:World} {φ:Phi}{X:List Ob}{z:Nat→Option Obj}
theorem frDs_ok {f:Value→Option Value}(hf:∀v u v',f v=some u→VR φ v v'→FR z u v'):∀{l us l':List Value},frDs f l=some us→VRl φ l l'→FRl z us l'
  | [],us,_,h,hv=>by
    cases hv
    simp only [frDs,Option.some.injEq]at h
    subst h;exact .nil
  | v::r,us,_,h,hv=>by
    cases hv with
    | cons h1 h2 =>
      simp only [frDs]at h
      split at h
      · rename_i u hu
        split at h
        · rename_i l hl
          simp only [Option.some.injEq]at h
          subst h
          exact .cons (hf _ _ _ hu h1) (frDs_ok hf hl h2)
        · cases h
      · cases h
theorem FRl.fn {z:Nat→Option Obj} {l l' m m':List Value}(g:FuncId) (h:FRl z l l') (h2:FRl z m m'):FR z (.func (.func g) ⟨l⟩ ⟨m⟩) (.func (.func g) ⟨l'⟩ ⟨m'⟩):=by
  have hh:∀{us ys:List Value},FRl z us ys→(⟨us⟩:Array Value).size=(⟨ys⟩:Array Value).size∧∀i,i<(⟨us⟩:Array Value).size→FR z ((⟨us⟩:Array Value).getD i undef) ((⟨ys⟩:Array Value).getD i undef):=by
    intro us ys hf
    refine ⟨by simpa using hf.agg.1,fun i hi=>?_⟩
    rcases hf.agg.2 i with h5 | h5
    · exact h5
    · simp at hi;omega
  exact .fn (hh h).1 (hh h).2 (hh h2).1 (hh h2).2
theorem cells_frl {c C:Array Value}{base:Nat}(hC:base+c.size≤C.size) (h2:∀(i:Nat) (v:Value),c[i]?=some v→∃v',C[base+i]?=some v'∧VR φ v v'):VRl φ c.toList ((C.toList.drop base).take c.size):=by
  have key:∀(l:List Value) (m:List Value),l.length=m.length→(∀(i:Nat) (v:Value),l[i]?=some v→∃v',m[i]?=some v'∧VR φ v v')→VRl φ l m:=by
    intro l
    induction l with
    | nil=>intro m hl _;cases m with
      | nil=>exact .nil
      | cons _ _=>simp at hl
    | cons x r ih=>intro m hl hh;cases m with
      | nil=>simp at hl
      | cons y s =>
        refine .cons ?_ (ih s (by simpa using hl) fun i v hv=>by simpa using hh (i+1) v (by simpa using hv))
        obtain ⟨v',h3,h4⟩:=hh 0 x rfl
        simp only [List.getElem?_cons_zero,Option.some.injEq]at h3
        rw [h3];exact h4
  refine key _ _ (by simp;omega) fun i v hv=>?_
  have hv2:c[i]?=some v:=by rw [← Array.getElem?_toList];exact hv
  obtain ⟨v',h3,h4⟩:=h2 i v hv2
  refine ⟨v',?_,h4⟩
  have hi:i<c.size:=by rw [Array.getElem?_eq_some_iff]at hv2;exact hv2.1
  rw [List.getElem?_take,if_pos hi,List.getElem?_drop,Array.getElem?_toList]
  exact h3
theorem FRl.cells {l:List Value}{C:Array Value}{base n:Nat}(h:FRl z l ((C.toList.drop base).take n)) (hC:base+n≤C.size):l.length=n∧∀i,i<(⟨l⟩:Array Value).size→FR z ((⟨l⟩:Array Value).getD i undef) (C.getD (base+i) undef):=by
  have hn:l.length=n:=by rw [h.agg.1];simp;omega
  refine ⟨hn,fun i hi=>?_⟩
  have hi':i<n:=by simpa [hn] using hi
  rcases h.agg.2 i with h1 | h1
  · have e:(⟨(C.toList.drop base).take n⟩:Array Value).getD i undef=C.getD (base+i) undef:=by
      rw [Array.getD_eq_getD_getElem?,Array.getD_eq_getD_getElem?]
      have:(⟨(C.toList.drop base).take n⟩:Array Value)[i]?=C[base+i]?:=by
        rw [← Array.getElem?_toList,List.getElem?_take,if_pos hi',List.getElem?_drop,Array.getElem?_toList]
      rw [this]
    rw [← e];exact h1
  · omega
theorem frC_ok {f:Value→Option Value}(hf:∀v u v',f v=some u→VR φ v v'→FR z u v'):∀v u v',frC f v=some u→VR φ v v'→FR z u v':=by
  intro v u v' h hv
  unfold frC at h
  split at h
  · cases h;cases hv;exact .lstZ _ _ _ _
  · exact hf _ _ _ h hv
theorem frD_ok (h:Made 0 z φ X w):∀{n:Nat} {v u v':Value},frD X n v=some u→VR φ v v'→FR z u v'
  | 0,_,_,_,hk,_=>by cases hk
  | n+1,v,u,v',hk,hv=>by
    have ih:∀v u v',frD X n v=some u→VR φ v v'→FR z u v':=fun v u v' h1 h2=>frD_ok h h1 h2
    unfold frD at hk
    split at hk
    · rename_i b off len sz
      rw [nthO_eq]at hk
      split at hk
      · rename_i c hb
        split at hk
        · rename_i l hl
          split at hk
          · rename_i hle
            simp only [Option.some.injEq]at hk
            subst hk
            obtain ⟨B,base,tot,C,el,fr,h3,hz,h8,h6⟩:=h.obs b _ hb (Nat.zero_le _)
            cases hv with
            | sliceZ _ a' k'=>exact .lstZ _ _ _ _
            | slice hφ hl1 hc =>
              rw [h3]at hφ;cases hφ
              obtain ⟨k1,k2⟩:=(frDs_ok (frC_ok ih) hl (cells_frl h8 h6)).cells h8
              exact .lst hz (by simpa [k1] using h8) k2 hl1 (by simpa [k1] using hle)
          · cases hk
        · cases hk
      · cases hk
    · rename_i b off
      rw [nthO_eq]at hk
      split at hk
      · rename_i c hb
        split at hk
        · rename_i l hl
          simp only [Option.some.injEq]at hk
          subst hk
          obtain ⟨B,base,tot,C,el,fr,h3,hz,h8,h6⟩:=h.obs b _ hb (Nat.zero_le _)
          cases hv with
          | ptr hφ =>
            rw [h3]at hφ;cases hφ
            obtain ⟨k1,k2⟩:=(frDs_ok (frC_ok ih) hl (cells_frl h8 h6)).cells h8
            exact .dpt hz (by simpa [k1] using h8) k2
        · cases hk
      · cases hk
    · rename_i l
      split at hk
      · rename_i us hl
        simp only [Option.some.injEq]at hk
        subst hk
        obtain ⟨⟨ys⟩,rfl,hs⟩:=hv.agg_inv
        exact (frDs_ok ih hl hs.toList).fr
      · cases hk
    · rename_i t x
      split at hk
      · rename_i y hy
        simp only [Option.some.injEq]at hk
        subst hk
        cases hv with
        | iface _ hv=>exact .iface _ (ih _ _ _ hy hv)
      · cases hk
    · rename_i g l m
      split at hk
      · rename_i us ws hl hm
        simp only [Option.some.injEq]at hk
        subst hk
        cases hv with
        | @fn _ _ first' _ cap' hg h1 h2 h3 h4 =>
          obtain ⟨first'⟩:=first'
          obtain ⟨cap'⟩:=cap'
          exact FRl.fn g (frDs_ok ih hl (VRs.toList (VRs.of h1 h2))) (frDs_ok ih hm (VRs.toList (VRs.of h3 h4)))
      · cases hk
    · split at hk
      · rename_i hf
        simp only [Option.some.injEq]at hk
        subst hk
        exact fz0_fr h hf hv
      · cases hk
theorem FRl.vrl {ψ:Phi} {l l':List Value}(h:FRl ψ.z l l'):VRl ψ l l':=by
  induction h with
  | nil=>exact .nil
  | cons h _ ih=>exact .cons h.vr ih
theorem frDV_ok {ψ:Phi}(h:Made 0 ψ.z φ X w) {v u v':Value}(hk:frDV X v=some u) (hv:VR φ v v'):VR ψ u v':=by
  unfold frDV at hk
  split at hk
  · rename_i x l
    split at hk
    · rename_i us hl
      simp only [Option.some.injEq]at hk
      subst hk
      obtain ⟨⟨ys⟩,rfl,hs⟩:=hv.tuple_inv rfl
      exact (frDs_ok (fun _ _ _ h1 h2=>frD_ok h h1 h2) hl hs.toList).vrl.vrs.tuple
    · cases hk
  · exact (frD_ok h hk hv).vr
end
section
variable {P:Program}
theorem Fact.liftD {f:FuncId}{args:Array Value}{v u:Value}{h1:Hp}(hf:Fact P (.call f args ⟨[],0,[]⟩) (.ret v h1)) (hfz:frDV h1.bl v=some u)
    (ha:args.toList.all pureA=true) (h:Hp):Fact P (.call f args h) (.ret u h):=by
  obtain ⟨_,hh⟩:=hf.1 (Nat.le_refl _)
  refine ⟨fun hb=>⟨Pres.refl _,?_⟩,trivial⟩
  intro K w0 φ w args' n hI hA
  have hI':Inv K w0 φ ([]++h.bl) w:=hI
  have hN:=hI'.narrow (H0:=[]) (fun b ob h=>by simp at h)
  have hA1:VRs (cut φ ([]:List Ob).length) args args':=VRs.of hA.size fun i hi=>scT_cut (all_getD (p:=pureA) ha hi) (hA.getD i)
  refine (hh _ w _ w args' n hN hA1).mono ?_
  intro e w' he
  cases e with
  | returned v' =>
    obtain ⟨φ',hle,hv',hF⟩:=he
    have hZ:=hF.freeze (H1:=[]) (k:=0) (fun b ob h=>by simp at h)
    have k1:=frDV_ok (ψ:=⟨fun b=>if b<([]:List Ob).length+0 then φ' b else none,zF φ' h1.bl 0 w'⟩) (zF_made hF 0) hfz hv'
    have hle2:le (cut φ ([]:List Ob).length) ⟨fun b=>if b<([]:List Ob).length+0 then φ' b else none,zF φ' h1.bl 0 w'⟩:=by
      refine ⟨fun b x hx=>?_,fun B o hB=>(zF_made hF 0).le B o (hle.zz B o hB)⟩
      rw [cut_ge (show ([]:List Ob).length≤b from Nat.zero_le b)]at hx;cases hx
    obtain ⟨φ'',q1,q2,q3⟩:=hI'.widen (H1:=[]) (X:=[]) hZ hle2 .nil
    refine ⟨φ'',q1,?_,q3⟩
    have hc:cut ⟨fun b=>if b<([]:List Ob).length+0 then φ' b else none,zF φ' h1.bl ([]:List Ob).length w'⟩ ([]:List Ob).length=⟨fun b=>if b<([]:List Ob).length+0 then φ' b else none,zF φ' h1.bl 0 w'⟩:=by
      unfold cut
      simp
    rw [hc]at q2
    exact k1.mono q2
  | panicked ch=>exact he.elim
  | outgrown=>exact he.elim
end
def hasApp (os:Array Oper):Bool:=os.toList.any fun o=>match o.op with
  | .call { callee:=.builtin b,.. }=>(match b with | .append | .copy=>true | _=>false)
  | _=>false
def forceK (k:Kn):Kn:=fun o=>match o with
  | .ex e s=>forceE s.h.bl fun bl=>k (.ex e ⟨s.t,s.d,⟨bl,s.h.base,s.h.wr⟩⟩)
  | o=>k o
theorem forceK_eq (k:Kn):forceK k=k:=by
  funext o
  cases o with
  | ex e s=>simp only [forceK,forceE_eq]
  | _=>rfl
def catL:List Value→Nat→Nat→List Value→List Value
  | [],_,_,m=>m
  | x::r,off,n,m=>match off with
    | o+1=>catL r o n m
    | 0=>(match n with
      | k+1=>x::catL r 0 k m
      | 0=>m)
theorem catL_eq:∀(l:List Value) (off n:Nat) (m:List Value),catL l off n m=(l.drop off).take n++m
  | [],off,n,m=>by simp [catL]
  | x::r,0,0,m=>by simp [catL]
  | x::r,0,k+1,m=>by simp [catL,catL_eq r 0 k m]
  | x::r,o+1,n,m=>by simp [catL,catL_eq r o n m]
theorem catA_eq (c:Array Value)(off n:Nat)(m:Array Value):(⟨catL c.toList off n m.toList⟩:Array Value)=c.extract off (off+n)++m:=by
  apply Array.ext'
  rw [catL_eq,Array.toList_append,Array.toList_extract,List.extract]
  simp
def appendZ (P:Program)(h:Hp)(ts tx:TypeId)(s x:Value)(k:Value→Hp→Option Out):Option Out :=
  match P.underlying ts,P.underlying tx with
  | some (.slice e),some d =>
    if intB d=true then none else
    match P.info? e,zeroB P e with
    | some inf,some z =>
      natF inf.size fun isz=>natF inf.bytes fun iby =>
      match s,lenB x with
      | .slice base sl sz,some n =>
        natF n fun n =>
        cond (decide (n=0)) (k (.slice base sl sz) h)
        (newC h.bl isz n x fun news =>
          cond (decide (news.size=n*isz)&&(oneAll news&&decide (z.cells.size=isz))) (cond (decide ((sl+n)*iby≤140737488355328)&&decide (sl+n≤4611686018427387904))
            (match base with
            | none=>cond (decide (sl=0)) (k (.slice (some ⟨h.bl.length,0,none⟩) n isz) (h.push (.cells news false))) none
            | some ⟨b,off,none⟩ =>
              match nthO h.bl b with
              | some (.cells c false) =>
                cond (decide (sz=isz)) (cond (decide (off+sl*isz≤c.size))
                  (k (.slice (some ⟨h.bl.length,0,none⟩) (sl+n) isz) ((h.put b .dead).push (.cells ⟨catL c.toList off (sl*isz) news.toList⟩ false))) none) none
              | _=>none
            | _=>none) none) none)
      | _,_=>none
    | _,_=>none
  | _,_=>none
theorem appendZ_eq:appendZ=appendC:=by
  funext P h ts tx s x k
  simp only [appendZ,appendC,catA_eq]
  rfl
def loudZ (P:Program) (ρ:Operand→Value)(h:Hp)(o:Oper)(k:Ends):Option Out :=
  match o.op with
  | .call { callee:=.builtin .append,args,argTypes } =>
    match args.toList,argTypes.toList with
    | [s,x],[ts,tx]=>if okO s&&okO x then appendZ P h ts tx (ρ s) (ρ x) k.val else none
    | _,_=>none
  | _=>loudC P ρ h o k
theorem loudZ_eq:loudZ=loudC:=by
  funext P ρ h o k
  unfold loudZ
  split
  · rename_i args ts ho
    unfold loudC
    simp only [ho,appendZ_eq]
    rfl
  · rfl
def opDZ (P:Program)(self:SelfC)(T:List Value)(h:Hp)(o:Oper)(k:Value→Hp→Bool→Option Out):Option Out :=
  match o.op with
  | .pick c a b=>if okO c&&okO a&&okO b then (match evalT T c with | .bool t=>cond t (k (evalT T a) h false) (k (evalT T b) h false) | _=>none) else none
  | _ =>
    match symR P (evalT T) h.bl o with
    | some (b,v)=>cond b (k v h false) none
    | none=>match aread P (evalT T) h.bl o with
      | some v=>k v h false
      | none=>loudZ P (evalT T) h o {
        val:=fun v h'=>heapK h' fun h'=>k v h' true
        enter:=fun f args=>headsK args fun args=>self (.call f ⟨args⟩ h) fun | .ret v h'=>k v h' true | _=>none
        yield:=fun l args=>headsK args fun args=>self (.round l ⟨args⟩ h) fun | .ret v h'=>k v h' true | _=>none
        defer:=fun _=>none
        panic:=fun _=>none }
theorem opDZ_eq:opDZ=opD:=by
  funext P self T h o k
  simp only [opDZ,loudZ_eq]
  rfl
def drunZ (P:Program)(self:SelfC)(os:Array Oper):List Nat→List Value→Hp→(List Rec→List Value→Hp→Option Out)→Option Out
  | [],T,h,k=>k [] T h
  | i::r,T,h,k =>
    match os[i]? with
    | none=>none
    | some o =>
      guardC os o T
        (fun T=>opDZ P self T h o fun v h' loud=>headK v fun v=>setK' T o.dst v fun T'=>drunZ P self os r T' h' fun l T2 h2=>k (⟨i,o,T,v,h,h',loud⟩::l) T2 h2)
        (fun T=>setK' T o.dst undef fun T'=>drunZ P self os r T' h fun l T2 h2=>k (⟨i,o,T,undef,h,h,false⟩::l) T2 h2)
theorem drunZ_eq (P:Program)(self:SelfC)(os:Array Oper):∀l,drunZ P self os l=drunC P self os l
  | []=>rfl
  | i::r=>by
    funext T h k
    simp only [drunZ,drunC,drunZ_eq P self os r,opDZ_eq]
    rfl
def drawnFZ (P:Program)(self:SelfC)(os:Array Oper)(s:St)(k:Ex→St→Option Out):Option Out :=
  if planOk os (late os) (mkClo os (late os) (List.replicate os.size 0)) then
    drunZ P self os (late os) s.t s.h fun recs T h =>
      if floatOk (mkClo os (late os) (List.replicate os.size 0)) [] recs&&recs.all fun r=>!(r.loud&&isAl r.o)||r.o.dst.all fun t=>decide (t<s.t.length) then
        fchkC P os (mkClo os (late os) (List.replicate os.size 0)) recs (k .normal { t:=T,d:=s.d,h:=h })
      else none
  else none
def drawnNZ (P:Program)(self:SelfC)(os:Array Oper)(s:St)(k:Ex→St→Option Out):Option Out :=
  if planOk os (Region.linearise .any os 0) (mkClo os (Region.linearise .any os 0) (List.replicate os.size 0)) then
    drunZ P self os (Region.linearise .any os 0) s.t s.h fun recs T h =>
      chkC P os (mkClo os (Region.linearise .any os 0) (List.replicate os.size 0)) recs (k .normal { t:=T,d:=s.d,h:=h })
  else none
def drawnXZ (P:Program)(self:SelfC)(os:Array Oper)(s:St)(k:Ex→St→Option Out):Option Out :=
  match floaty os (mkClo os (Region.linearise .any os 0) (List.replicate os.size 0)) with
  | true=>drawnFZ P self os s k
  | false=>drawnNZ P self os s k
theorem drawnXZ_eq:drawnXZ=drawnXC:=by
  funext P self os s k
  simp only [drawnXZ,drawnXC,drawnFZ,drawnFC,drawnNZ,drawnC,drunZ_eq]
  rfl
def opZ (P:Program) (ρ:Operand→Value)(h:Hp)(o:Oper)(k:Ends):Option Out :=
  match o.op with
  | .pick c a b=>if okO c&&okO a&&okO b then (match ρ c with | .bool t=>cond t (k.val (ρ a) h) (k.val (ρ b) h) | _=>none) else none
  | _ =>
    match symR P ρ h.bl o with
    | some (b,v)=>cond b (k.val v h) none
    | none=>match aread P ρ h.bl o with
      | some v=>k.val v h
      | none=>loudZ P ρ h o k.heap
theorem opZ_eq:opZ=opC:=by
  funext P ρ h o k
  simp only [opZ,loudZ_eq]
  rfl
def runOpsZ (P:Program)(self:SelfC)(rd:Option Nat)(os:Array Oper):List Nat→St→(Ex→St→Option Out)→Option Out
  | [],s,k=>k .normal s
  | i::r,s,k =>
    match os[i]? with
    | none=>runOpsZ P self rd os r s k
    | some o =>
      guardC os o s.t
        (fun t=>opZ P (evalT t) s.h o {
          val:=fun v h=>setK' t o.dst v fun t=>runOpsZ P self rd os r { t:=t,d:=s.d,h:=h } k
          enter:=fun f args=>headsK args fun args=>self (.call f ⟨args⟩ s.h) fun
            | .ret v h=>setK' t o.dst v fun t=>runOpsZ P self rd os r { t:=t,d:=s.d,h:=h } k
            | .pan v h=>k (.panic v) { t:=t,d:=s.d,h:=h }
            | _=>none
          yield:=fun l args=>headsK args fun args=>self (.round l ⟨args⟩ s.h) fun
            | .ret v h=>setK' t o.dst v fun t=>runOpsZ P self rd os r { t:=t,d:=s.d,h:=h } k
            | _=>none
          defer:=fun d=>if rd.isNone then setK' t o.dst undef fun t=>runOpsZ P self rd os r { t:=t,d:=d::s.d,h:=s.h } k else none
          panic:=fun v=>k (.panic v) { t:=t,d:=s.d,h:=s.h } })
        (fun t=>setK' t o.dst undef fun t=>runOpsZ P self rd os r { t:=t,d:=s.d,h:=s.h } k)
theorem runOpsZ_eq (P:Program)(self:SelfC)(rd:Option Nat)(os:Array Oper):∀l,runOpsZ P self rd os l=runOpsC P self rd os l
  | []=>rfl
  | i::r=>by
    funext s k
    simp only [runOpsZ,runOpsC,runOpsZ_eq P self rd os r,opZ_eq]
    rfl
def drawnWZ (P:Program)(self:SelfC)(rd:Option Nat)(os:Array Oper)(s:St)(k:Ex→St→Option Out):Option Out :=
  match waits os (os.size-1)&&Nat.blt 0 os.size with
  | true=>drawnXZ P self os.pop s fun e s'=>(match e with
    | .normal=>runOpsZ P self rd os [os.size-1] s' k
    | _=>none)
  | false=>drawnXZ P self os s k
theorem drawnWZ_ok {P:Program}{self:SelfC}{sd:Self}(hs:CpsOk self sd) {rd:Option Nat}{id:Nat}{os:Array Oper}{s:St}{k:Ex→St→Option Out}{r:Out}(hc:drawnWZ P self rd os s k=some r) :
    ∃e s',drawnW P sd rd id os s=some (.ex e s')∧k e s'=some r:=by
  unfold drawnWZ at hc
  unfold drawnW
  by_cases hw:(waits os (os.size-1)&&Nat.blt 0 os.size)=true
  · rw [hw]at hc ⊢
    simp only [drawnXZ_eq]at hc
    obtain ⟨e,s',h1,h2⟩:=drawnXC_ok (rd:=rd) (id:=id) hs hc
    simp only [h1]
    cases e with
    | normal =>
      simp only at h2 ⊢
      rw [runOpsZ_eq]at h2
      exact runOpsC_ok hs h2
    | _=>cases h2
  · rw [Bool.eq_false_iff.2 hw]at hc ⊢
    simp only [drawnXZ_eq]at hc
    exact drawnXC_ok hs hc
def stepZ (P:Program)(self:SelfC):SelfC:=fun t k=>match t with
  | .code rd (.region id os dr) s=>(match dr with
    | true=>drawnWZ P self rd os s fun e s'=>(match hasApp os with
      | true=>forceK k (.ex e s')
      | false=>k (.ex e s'))
    | false=>(match hasApp os with
      | true=>runOpsZ P self rd os (List.range os.size) s fun e s'=>forceK k (.ex e s')
      | false=>stepC P self (.code rd (.region id os false) s) k))
  | t=>stepC P self t k
theorem stepF_drawn {P:Program}{sd:Self}{t:Task}{d1 d2:Program→Self→Option Nat→Nat→Array Oper→St→Option Out}(h:∀rd id os s,t≠.code rd (.region id os true) s):stepF d1 P sd t=stepF d2 P sd t:=by
  cases t with
  | code rd c s =>
    cases c with
    | region id os dr =>
      cases dr with
      | true=>exact (h rd id os s rfl).elim
      | false=>rfl
    | _=>rfl
  | _=>rfl
theorem stepZ_ok {P:Program}{self:SelfC}{sd:Self}(hs:CpsOk self sd):CpsOk (stepZ P self) (stepF drawnW P sd):=by
  intro t k r hc
  unfold stepZ at hc
  split at hc
  · rename_i rd id os dr s
    cases dr with
    | true =>
      simp only at hc
      obtain ⟨e,s',h1,h2⟩:=drawnWZ_ok (id:=id) hs hc
      refine ⟨.ex e s',by simpa only [stepF,if_true] using h1,?_⟩
      split at h2
      · rw [forceK_eq]at h2;exact h2
      · exact h2
    | false =>
      simp only at hc
      split at hc
      · rw [runOpsZ_eq,forceK_eq]at hc
        obtain ⟨o,h1,h2⟩:=stepC_ok hs (.code rd (.region id os false) s) k r hc
        exact ⟨o,(stepF_drawn (fun _ _ _ _ h=>by cases h)).trans h1,h2⟩
      · obtain ⟨o,h1,h2⟩:=stepC_ok hs (.code rd (.region id os false) s) k r hc
        exact ⟨o,(stepF_drawn (fun _ _ _ _ h=>by cases h)).trans h1,h2⟩
  · rename_i hn
    obtain ⟨o,h1,h2⟩:=stepC_ok hs _ k r hc
    exact ⟨o,(stepF_drawn (fun rd id os s h=>hn rd id os true s h)).trans h1,h2⟩
def evZ (P:Program)(oc:Task→Kn→Option (Option Out)):Nat→SelfC
  | 0,_,_=>none
  | n+1,t,k=>match oc t k with
    | some r=>r
    | none=>stepZ P (evZ P oc n) t k
theorem evZ_ok {P:Program}{oc:Task→Kn→Option (Option Out)}{orc:Self}(ho:OcOk oc orc):∀n,CpsOk (evZ P oc n) (iterO orc drawnW P n)
  | 0=>fun _ _ _ h=>by cases h
  | n+1=>by
    intro t k r h
    simp only [evZ]at h
    simp only [iterO]
    split at h
    · rename_i r' hr
      subst h
      obtain ⟨o,h1,h2⟩:=ho.1 _ _ _ hr
      rw [h1];exact ⟨_,rfl,h2⟩
    · rename_i hr
      rw [ho.2 _ _ hr]
      exact stepZ_ok (evZ_ok ho n) t k r h
theorem Known.factZ {P:Program}(hN:NoNG P) (hm:P.follows .mixedOrders=true) {a:Ans}(hk:Known P a) {n:Nat}{t:Task}{k:Kn}{r:Out}(h:evZ P a.c n t k=some r):∃o,k o=some r∧Fact P t o:=by
  obtain ⟨o',h1,h2⟩:=evZ_ok (P:=P) a.oc n t k r h
  have hh:=iterO_ok (drawn:=drawnW) hN (drawnW_ok hN hm) hk.selfOk hk.loopOk n
  refine ⟨o',h2,hh.1 _ _ h1,?_⟩
  unfold LoopFact
  split
  · exact fun hb=>hh.2 _ _ _ _ _ h1 hb
  · trivial
def CF.chk (P:Program)(l:List CF)(n:Nat)(c:CF):Bool:=match evZ P (tabA l).c n (.call c.g ⟨c.args⟩ ⟨[],0,[]⟩) frDK with
  | some (.ret u ⟨[],0,[]⟩)=>(match eqVn 12 u c.u with
    | true=>c.args.all pureA
    | false=>false)
  | _=>false
section
variable {P:Program}(hN:NoNG P) (hm:P.follows .mixedOrders=true)
include hN hm
theorem CF.of2 {l:List CF}(hl:CFs P l) (n:Nat) {c:CF}(h:c.chk P l n=true):c.Ok P:=by
  unfold CF.chk at h
  split at h
  · rename_i u he
    split at h
    · rename_i hu
      have e:=eqVn_eq hu
      subst e
      intro hp
      obtain ⟨o,h3,hf⟩:=(tabA_ok hl).factZ hN hm he
      cases o with
      | ret v h' =>
        simp only [frDK]at h3
        split at h3
        · rename_i u hu
          simp only [Option.some.injEq,Out.ret.injEq,and_true]at h3
          subst h3
          exact hf.liftD hu h hp
        · cases h3
      | _=>cases h3
    · cases h
  · cases h
end
end
end Go.Gi
namespace Go.Proofs.Ytnmjibcolnlkjaa
open Go.Gi Go.RowKit
noncomputable section
set_option maxRecDepth 100000
set_option maxHeartbeats 4000000
def wKnown0:Array Value:=⟨[vI 2,vI 1000,vI 1000,vI 10,vI 10,vI 0,vI 0,vJ 9,vI 10,vI 0,vI 0,vI 0,vI 0]⟩
def wKnown1:Array Value:=⟨[.string ⟨⟨[100,97,114,116]⟩⟩,vI 98,vI 98,.slice none 0 0,lstV wKnown0 0 1 13,.slice none 0 0]⟩
def wKnown2:Array Value:=⟨[vI 0,vI 300,vI 300,vI 0,vI 0,vI 0,vI 0,vI 100000,vI 0,vI 0,vI 0,vI 0,vI 0,vI 0]⟩
def wKnown3:Array Value:=⟨[vI 0,vI 0,vI 0,vI 0,vI 10000,vI 10000,vI 98,vI 98,lstV wKnown2 0 2 7,lstV ⟨[vI 0,vI 0,vI 0]⟩ 0 1 3,lstV wKnown0 0 1 13,.slice none 0 0]⟩
def wKnown4:Array Value:=⟨[vI 10000000000,vI 10000000000,vI 10000000000,vI 10000000000,vI 10000000000,vI 10000000000]⟩
def wKnown5:Array Value:=⟨[vI 0,vI 0,vI 0,vI 0,vI 10000,vI 10000,vI 98,vI 98,lstV wKnown2 0 2 7,lstV ⟨[vI 0,vI 0,vI 0]⟩ 0 1 3,lstV wKnown0 0 1 13,lstV ⟨[]⟩ 0 0 1]⟩
def wKnown7:Array Value:=⟨[vJ 0,vI 1,vI 0,vI 0,vI 902,vI 902,vJ 0,vI 1,vI 0,vI 0,vI 902,vI 902]⟩
def wKnown8:Array Value:=⟨[vJ 2,vI 3,vI 0,vI 0,vI 2706,vI 2706,vJ 1,vI 2,vI 0,vI 0,vI 1804,vI 1804]⟩
def wKnown9:Array Value:=⟨[vJ 4,vI 5,vI 0,vI 0,vI 4412,vI 4412,vJ 1,vI 2,vI 0,vI 0,vI 1706,vI 1706]⟩
def wKnown10:Array Value:=⟨[vJ 6,vI 7,vI 0,vI 0,vI 6020,vI 6020,vJ 1,vI 2,vI 0,vI 0,vI 1608,vI 1608]⟩
def wKnown13:Array Value:=⟨[vJ 8,vI 9,vI 0,vI 0,vI 7530,vI 7530,vJ 1,vI 2,vI 0,vI 0,vI 1510,vI 1510]⟩
def wKnown14:Array Value:=⟨[vJ 10,vI 11,vI 0,vI 0,vI 8942,vI 8942,vJ 1,vI 2,vI 0,vI 0,vI 1412,vI 1412]⟩
def wKnown15:Array Value:=⟨[vJ 12,vI 13,vI 0,vI 0,vI 10256,vI 10256,vJ 1,vI 2,vI 0,vI 0,vI 1314,vI 1314]⟩
def wKnown16:Array Value:=⟨[vJ 14,vI 15,vI 0,vI 0,vI 11472,vI 11472,vJ 1,vI 2,vI 0,vI 0,vI 1216,vI 1216]⟩
def wKnown17:Array Value:=⟨[vJ 16,vI 17,vI 0,vI 0,vI 12590,vI 12590,vJ 1,vI 2,vI 0,vI 0,vI 1118,vI 1118]⟩
def wKnown18:Array Value:=⟨[vJ 18,vI 19,vI 0,vI 0,vI 13610,vI 13610,vJ 1,vI 2,vI 0,vI 0,vI 1020,vI 1020]⟩
def wKnown19:Array Value:=⟨[vJ 20,vI 21,vI 0,vI 0,vI 14532,vI 14532,vJ 1,vI 2,vI 0,vI 0,vI 922,vI 922]⟩
def wKnown20:Array Value:=⟨[vJ 22,vI 23,vI 0,vI 0,vI 15356,vI 15356,vJ 1,vI 2,vI 0,vI 0,vI 824,vI 824]⟩
def wKnown21:Array Value:=⟨[vJ 24,vI 25,vI 0,vI 0,vI 16082,vI 16082,vJ 1,vI 2,vI 0,vI 0,vI 726,vI 726]⟩
def wKnown22:Array Value:=⟨[vJ 26,vI 27,vI 0,vI 0,vI 16710,vI 16710,vJ 1,vI 2,vI 0,vI 0,vI 628,vI 628]⟩
def wKnown23:Array Value:=⟨[vJ 28,vI 29,vI 0,vI 0,vI 17240,vI 17240,vJ 1,vI 2,vI 0,vI 0,vI 530,vI 530]⟩
def wKnown24:Array Value:=⟨[vJ 30,vI 31,vI 0,vI 0,vI 17672,vI 17672,vJ 1,vI 2,vI 0,vI 0,vI 432,vI 432]⟩
def wKnown25:Array Value:=⟨[vJ 32,vI 33,vI 0,vI 0,vI 18006,vI 18006,vJ 1,vI 2,vI 0,vI 0,vI 334,vI 334]⟩
def wKnown26:Array Value:=⟨[vJ 34,vI 35,vI 0,vI 0,vI 18242,vI 18242,vJ 1,vI 2,vI 0,vI 0,vI 236,vI 236]⟩
def wKnown27:Array Value:=⟨[vJ 36,vI 37,vI 0,vI 0,vI 18380,vI 18380,vJ 1,vI 2,vI 0,vI 0,vI 138,vI 138]⟩
def wKnown28:Array Value:=⟨[vJ 38,vI 39,vI 0,vI 0,vI 18420,vI 18420,vJ 1,vI 2,vI 0,vI 0,vI 40,vI 40]⟩
def wKnown29:Array Value:=⟨[vJ 40,vI 41,vI 0,vI 0,vI 18362,vI 18362,vJ 1,vI 2,vI 0,vI 0,vJ 57,vJ 57]⟩
def wKnown30:Array Value:=⟨[vJ 42,vI 43,vI 0,vI 0,vI 18206,vI 18206,vJ 1,vI 2,vI 0,vI 0,vJ 155,vJ 155]⟩
def wKnown31:Array Value:=⟨[vJ 44,vI 45,vI 0,vI 0,vI 17952,vI 17952,vJ 1,vI 2,vI 0,vI 0,vJ 253,vJ 253]⟩
def wKnown32:Array Value:=⟨[vJ 46,vI 47,vI 0,vI 0,vI 17600,vI 17600,vJ 1,vI 2,vI 0,vI 0,vJ 351,vJ 351]⟩
def wKnown33:Array Value:=⟨[vJ 48,vI 49,vI 0,vI 0,vI 17150,vI 17150,vJ 1,vI 2,vI 0,vI 0,vJ 449,vJ 449]⟩
def wKnown34:Array Value:=⟨[vJ 50,vI 51,vI 0,vI 0,vI 16602,vI 16602,vJ 1,vI 2,vI 0,vI 0,vJ 547,vJ 547]⟩
def wKnown39:Array Value:=⟨[vI 2,vI 1000,vI 1000,vI 10,vI 10,vI 10,vI 10,vJ 9,vI 10,vI 0,vI 0,vI 0,vI 0]⟩
def wKnown40:Array Value:=⟨[.string ⟨⟨[100,97,114,116]⟩⟩,vI 98,vI 98,lstV ⟨[vI 0,vI 1000]⟩ 0 1 2,lstV wKnown39 0 1 13,.slice none 0 0]⟩
def wKnown41:Array Value:=⟨[vI 0,vI 0,vI 0,vI 0,vI 10000,vI 10000,vI 98,vI 98,lstV wKnown2 0 2 7,lstV ⟨[vI 0,vI 1000,vI 1000]⟩ 0 1 3,lstV wKnown39 0 1 13,.slice none 0 0]⟩
def wKnown43:Array Value:=⟨[vI 0,vI 0,vI 0,vI 10,vI 10,vI 10,vI 10,vI 0,vI 0,vI 0,vI 0,vI 0,vI 0]⟩
def wKnown45:Array Value:=⟨[dptV ⟨[vI 0]⟩ 0,dptV ⟨[vI 0,vI 0,vI 0,vI 0,vI 0,vI 0,vI 0,vI 0,vI 0,vI 0,vI 0,vI 0]⟩ 0,dptV ⟨[vI 3000]⟩ 0,dptV wKnown5 0,dptV ⟨[.func (.func 70) ⟨[lstV wKnown0 0 1 13]⟩ ⟨[]⟩]⟩ 0]⟩
def wKnown46:Array Value:=⟨[vJ 52,vI 53,vI 0,vI 0,vI 15956,vI 15956,vJ 1,vI 2,vI 0,vI 0,vJ 645,vJ 645]⟩
def wKnown47:Array Value:=⟨[vJ 54,vI 55,vI 0,vI 0,vI 15212,vI 15212,vJ 1,vI 2,vI 0,vI 0,vJ 743,vJ 743]⟩
def wKnown48:Array Value:=⟨[vJ 56,vI 57,vI 0,vI 0,vI 14370,vI 14370,vJ 1,vI 2,vI 0,vI 0,vJ 841,vJ 841]⟩
def wKnown49:Array Value:=⟨[vJ 58,vI 59,vI 0,vI 0,vI 13430,vI 13430,vJ 1,vI 2,vI 0,vI 0,vJ 939,vJ 939]⟩
def wKnown50:Array Value:=⟨[vJ 60,vI 61,vI 0,vI 0,vI 12392,vI 12392,vJ 1,vI 2,vI 0,vI 0,vJ 1037,vJ 1037]⟩
def wKnown51:Array Value:=⟨[vJ 62,vI 63,vI 0,vI 0,vI 11256,vI 11256,vJ 1,vI 2,vI 0,vI 0,vJ 1135,vJ 1135]⟩
def wKnown52:Array Value:=⟨[vJ 64,vI 65,vI 0,vI 0,vI 10022,vI 10022,vJ 1,vI 2,vI 0,vI 0,vJ 1233,vJ 1233]⟩
def wKnown53:Array Value:=⟨[vJ 66,vI 67,vI 0,vI 0,vI 8690,vI 8690,vJ 1,vI 2,vI 0,vI 0,vJ 1331,vJ 1331]⟩
def wKnown54:Array Value:=⟨[vJ 68,vI 69,vI 0,vI 0,vI 7260,vI 7260,vJ 1,vI 2,vI 0,vI 0,vJ 1429,vJ 1429]⟩
def wKnown55:Array Value:=⟨[vJ 70,vI 71,vI 0,vI 0,vI 5732,vI 5732,vJ 1,vI 2,vI 0,vI 0,vJ 1527,vJ 1527]⟩
def wKnown56:Array Value:=⟨[vJ 72,vI 73,vI 0,vI 0,vI 4106,vI 4106,vJ 1,vI 2,vI 0,vI 0,vJ 1625,vJ 1625]⟩
def wKnown57:Array Value:=⟨[vJ 74,vI 75,vI 0,vI 0,vI 2382,vI 2382,vJ 1,vI 2,vI 0,vI 0,vJ 1723,vJ 1723]⟩
def wKnown58:Array Value:=⟨[vJ 76,vI 77,vI 0,vI 0,vI 560,vI 560,vJ 1,vI 2,vI 0,vI 0,vJ 1821,vJ 1821]⟩
def wKnown59:Array Value:=⟨[vJ 78,vI 79,vI 0,vI 0,vJ 1359,vJ 1359,vJ 1,vI 2,vI 0,vI 0,vJ 1919,vJ 1919]⟩
def wKnown60:Array Value:=⟨[vI 0,vI 0,vI 0,vI 0,vI 5000,vI 5000,vI 0,vI 0,vI 0,vI 0,vI 10000,vI 10000]⟩
def wKnown61:Array Value:=⟨[vI 100040000,vI 100050000,vI 100040000,vI 100050000,vI 100040000,vI 100050000]⟩
def wKnown62:Array Value:=⟨[vJ 30014999999,vJ 30011999999,vI 0,vI 0,vI 1000400000000,vI 1000500000000]⟩
def KKnown0:CF:=⟨22,[],.agg wKnown1⟩
theorem kKnown0:KKnown0.Ok Try.prog:=CF.of2 noNG mixed (l:=[]) .nil 3000 (by kernel_rfl)
def KKnown1:CF:=⟨23,[],.agg ⟨[vI 0,vI 0,vI 10000]⟩⟩
theorem kKnown1:KKnown1.Ok Try.prog:=CF.of2 noNG mixed (l:=[]) .nil 3000 (by kernel_rfl)
def KKnown2:CF:=⟨24,[],lstV ⟨[vI 0,vI 100000,vI 300,vI 300,vI 0,vI 0]⟩ 0 1 6⟩
theorem kKnown2:KKnown2.Ok Try.prog:=CF.of2 noNG mixed (l:=[]) .nil 3000 (by kernel_rfl)
def KKnown3:CF:=⟨42,[.string ⟨⟨[100,97,114,116]⟩⟩],vT⟩
theorem kKnown3:KKnown3.Ok Try.prog:=CF.of2 noNG mixed (l:=[]) .nil 3000 (by kernel_rfl)
def KKnown4:CF:=⟨86,[.agg ⟨[vJ 9,vI 10,vI 0,vI 0,vI 0,vI 0]⟩,vI 2000],vT⟩
theorem kKnown4:KKnown4.Ok Try.prog:=CF.of2 noNG mixed (l:=[]) .nil 3000 (by kernel_rfl)
def KKnown5:CF:=⟨45,[lstV wKnown0 0 1 13],.tuple ⟨[vI 0,vI 0]⟩⟩
theorem kKnown5:KKnown5.Ok Try.prog:=CF.of2 noNG mixed (l:=[KKnown4]) (.cons kKnown4 .nil) 3000 (by kernel_rfl)
def KKnown6:CF:=⟨13,[.agg wKnown1],.tuple ⟨[vI 0,vI 0,vI 0]⟩⟩
theorem kKnown6:KKnown6.Ok Try.prog:=CF.of2 noNG mixed (l:=[KKnown3,KKnown5]) (.cons kKnown3 (.cons kKnown5 .nil)) 3000 (by kernel_rfl)
def KKnown7:CF:=⟨53,[lstV ⟨[vI 0,vI 100000,vI 300,vI 300,vI 0,vI 0]⟩ 0 1 6],.tuple ⟨[vI 0,vI 0]⟩⟩
theorem kKnown7:KKnown7.Ok Try.prog:=CF.of2 noNG mixed (l:=[]) .nil 3000 (by kernel_rfl)
def KKnown8:CF:=⟨56,[lstV ⟨[vI 0,vI 100000,vI 300,vI 300,vI 0,vI 0]⟩ 0 1 6],lstV wKnown2 0 2 7⟩
theorem kKnown8:KKnown8.Ok Try.prog:=CF.of2 noNG mixed (l:=[]) .nil 3000 (by kernel_rfl)
def KKnown9:CF:=⟨63,[.slice none 0 0],lstV ⟨[vI 0,vI 0,vI 0]⟩ 0 1 3⟩
theorem kKnown9:KKnown9.Ok Try.prog:=CF.of2 noNG mixed (l:=[]) .nil 3000 (by kernel_rfl)
def KKnown10:CF:=⟨66,[.agg wKnown1,.agg ⟨[vI 0,vI 0,vI 10000]⟩,lstV ⟨[vI 0,vI 100000,vI 300,vI 300,vI 0,vI 0]⟩ 0 1 6],.tuple ⟨[.agg wKnown3,vI 0]⟩⟩
theorem kKnown10:KKnown10.Ok Try.prog:=CF.of2 noNG mixed (l:=[KKnown8,KKnown9,KKnown6,KKnown7]) (.cons kKnown8 (.cons kKnown9 (.cons kKnown6 (.cons kKnown7 .nil)))) 3000 (by kernel_rfl)
def KKnown11:CF:=⟨86,[.agg ⟨[vI 0,vI 0,vI 0,vI 0,vI 0,vI 0]⟩,vI 2000000000],vT⟩
theorem kKnown11:KKnown11.Ok Try.prog:=CF.of2 noNG mixed (l:=[]) .nil 3000 (by kernel_rfl)
def KKnown12:CF:=⟨86,[.agg ⟨[vI 0,vI 0,vI 0,vI 0,vI 0,vI 0]⟩,vI 1000000],vT⟩
theorem kKnown12:KKnown12.Ok Try.prog:=CF.of2 noNG mixed (l:=[]) .nil 3000 (by kernel_rfl)
def KKnown13:CF:=⟨68,[.agg ⟨[vI 0,vI 0,vI 0,vI 0,vI 0,vI 0,vI 0,vI 0,vI 0,vI 0,vI 0,vI 0]⟩],vF⟩
theorem kKnown13:KKnown13.Ok Try.prog:=CF.of2 noNG mixed (l:=[KKnown11,KKnown12]) (.cons kKnown11 (.cons kKnown12 .nil)) 3000 (by kernel_rfl)
def KKnown14:CF:=⟨91,[.agg ⟨[vI 0,vI 0,vI 0,vI 0,vI 10000,vI 10000]⟩,.func (.func 105) ⟨[]⟩ ⟨[]⟩,.agg ⟨[vJ 9,vI 10,vI 0,vI 0,vI 0,vI 0]⟩],.agg ⟨[vJ 9,vI 10,vI 0,vI 0,vI 10000,vI 10000]⟩⟩
theorem kKnown14:KKnown14.Ok Try.prog:=CF.of2 noNG mixed (l:=[]) .nil 3000 (by kernel_rfl)
def KKnown15:CF:=⟨91,[.agg ⟨[vJ 9,vI 10,vI 0,vI 0,vI 10000,vI 10000]⟩,.func (.func 111) ⟨[]⟩ ⟨[]⟩,.agg ⟨[vI 10000,vI 10000,vI 10000,vI 10000,vI 10000,vI 10000]⟩],.agg ⟨[vJ 99999,vI 100000,vI 0,vI 0,vI 100000000,vI 100000000]⟩⟩
theorem kKnown15:KKnown15.Ok Try.prog:=CF.of2 noNG mixed (l:=[]) .nil 3000 (by kernel_rfl)
def KKnown16:CF:=⟨112,[.agg ⟨[vJ 9,vI 10,vI 0,vI 0,vI 10000,vI 10000]⟩,.func (.func 111) ⟨[]⟩ ⟨[]⟩,.agg ⟨[vI 10000,vI 10000]⟩],.agg ⟨[vJ 99999,vI 100000,vI 0,vI 0,vI 100000000,vI 100000000]⟩⟩
theorem kKnown16:KKnown16.Ok Try.prog:=CF.of2 noNG mixed (l:=[KKnown15]) (.cons kKnown15 .nil) 3000 (by kernel_rfl)
def KKnown17:CF:=⟨91,[.agg ⟨[vJ 99999,vI 100000,vI 0,vI 0,vI 100000000,vI 100000000]⟩,.func (.func 113) ⟨[]⟩ ⟨[]⟩,.agg ⟨[vI 100000,vI 100000,vI 100000,vI 100000,vI 100000,vI 100000]⟩],.agg ⟨[vJ 0,vI 1,vI 0,vI 0,vI 1000,vI 1000]⟩⟩
theorem kKnown17:KKnown17.Ok Try.prog:=CF.of2 noNG mixed (l:=[]) .nil 3000 (by kernel_rfl)
def KKnown18:CF:=⟨112,[.agg ⟨[vJ 99999,vI 100000,vI 0,vI 0,vI 100000000,vI 100000000]⟩,.func (.func 113) ⟨[]⟩ ⟨[]⟩,.agg ⟨[vI 100000,vI 100000]⟩],.agg ⟨[vJ 0,vI 1,vI 0,vI 0,vI 1000,vI 1000]⟩⟩
theorem kKnown18:KKnown18.Ok Try.prog:=CF.of2 noNG mixed (l:=[KKnown17]) (.cons kKnown17 .nil) 3000 (by kernel_rfl)
def KKnown20:CF:=⟨55,[lstV wKnown2 0 2 7,.agg ⟨[vI 0,vI 0]⟩,.func (.func 57) ⟨[]⟩ ⟨[]⟩],.agg ⟨[vI 300,vI 300,vI 0,vI 0,vI 0,vI 0]⟩⟩
theorem kKnown20:KKnown20.Ok Try.prog:=CF.of2 noNG mixed (l:=[]) .nil 3000 (by kernel_rfl)
def KKnown21:CF:=⟨91,[.agg ⟨[vI 0,vI 0,vI 0,vI 0,vI 0,vI 0]⟩,.func (.func 98) ⟨[]⟩ ⟨[]⟩,.agg ⟨[vI 300,vI 300,vI 0,vI 0,vI 0,vI 0]⟩],.agg ⟨[vJ 299,vJ 299,vI 0,vI 0,vI 0,vI 0]⟩⟩
theorem kKnown21:KKnown21.Ok Try.prog:=CF.of2 noNG mixed (l:=[]) .nil 3000 (by kernel_rfl)
def KKnown22:CF:=⟨125,[.agg ⟨[vI 90000,vI 90000]⟩],.agg ⟨[vI 300,vI 300]⟩⟩
theorem kKnown22:KKnown22.Ok Try.prog:=CF.of2 noNG mixed (l:=[]) .nil 3000 (by kernel_rfl)
def KKnown23:CF:=⟨116,[.agg ⟨[vJ 299,vJ 299,vI 0,vI 0,vI 0,vI 0]⟩],.agg ⟨[vI 300,vI 300]⟩⟩
theorem kKnown23:KKnown23.Ok Try.prog:=CF.of2 noNG mixed (l:=[KKnown22]) (.cons kKnown22 .nil) 3000 (by kernel_rfl)
def KKnown24:CF:=⟨91,[.agg ⟨[vJ 299,vJ 299,vI 0,vI 0,vI 0,vI 0]⟩,.func (.func 111) ⟨[]⟩ ⟨[]⟩,.agg ⟨[vI 0,vI 0,vI 0,vI 0,vI 0,vI 0]⟩],.agg ⟨[vI 0,vI 0,vI 0,vI 0,vI 0,vI 0]⟩⟩
theorem kKnown24:KKnown24.Ok Try.prog:=CF.of2 noNG mixed (l:=[]) .nil 3000 (by kernel_rfl)
def KKnown25:CF:=⟨112,[.agg ⟨[vJ 299,vJ 299,vI 0,vI 0,vI 0,vI 0]⟩,.func (.func 111) ⟨[]⟩ ⟨[]⟩,.agg ⟨[vI 0,vI 0]⟩],.agg ⟨[vI 0,vI 0,vI 0,vI 0,vI 0,vI 0]⟩⟩
theorem kKnown25:KKnown25.Ok Try.prog:=CF.of2 noNG mixed (l:=[KKnown24]) (.cons kKnown24 .nil) 3000 (by kernel_rfl)
def KKnown26:CF:=⟨91,[.agg ⟨[vI 0,vI 0,vI 0,vI 0,vI 0,vI 0]⟩,.func (.func 113) ⟨[]⟩ ⟨[]⟩,.agg wKnown4],.agg ⟨[vI 0,vI 0,vI 0,vI 0,vI 0,vI 0]⟩⟩
theorem kKnown26:KKnown26.Ok Try.prog:=CF.of2 noNG mixed (l:=[]) .nil 3000 (by kernel_rfl)
def KKnown27:CF:=⟨112,[.agg ⟨[vI 0,vI 0,vI 0,vI 0,vI 0,vI 0]⟩,.func (.func 113) ⟨[]⟩ ⟨[]⟩,.agg ⟨[vI 10000000000,vI 10000000000]⟩],.agg ⟨[vI 0,vI 0,vI 0,vI 0,vI 0,vI 0]⟩⟩
theorem kKnown27:KKnown27.Ok Try.prog:=CF.of2 noNG mixed (l:=[KKnown26]) (.cons kKnown26 .nil) 3000 (by kernel_rfl)
def KKnown29:CF:=⟨91,[.agg ⟨[vJ 0,vI 1,vI 0,vI 0,vI 1000,vI 1000]⟩,.func (.func 98) ⟨[]⟩ ⟨[]⟩,.agg ⟨[vI 0,vI 0,vI 0,vI 0,vI 0,vI 0]⟩],.agg ⟨[vJ 0,vI 1,vI 0,vI 0,vI 1000,vI 1000]⟩⟩
theorem kKnown29:KKnown29.Ok Try.prog:=CF.of2 noNG mixed (l:=[]) .nil 3000 (by kernel_rfl)
def KKnown30:CF:=⟨91,[.agg ⟨[vJ 0,vI 1,vI 0,vI 0,vI 1000,vI 1000]⟩,.func (.func 98) ⟨[]⟩ ⟨[]⟩,.agg ⟨[vI 0,vI 0,vI 0,vI 0,vI 98,vI 98]⟩],.agg ⟨[vJ 0,vI 1,vI 0,vI 0,vI 902,vI 902]⟩⟩
theorem kKnown30:KKnown30.Ok Try.prog:=CF.of2 noNG mixed (l:=[]) .nil 3000 (by kernel_rfl)
def KKnown33:CF:=⟨91,[.agg ⟨[vI 0,vI 0,vI 0,vI 0,vI 10000,vI 10000]⟩,.func (.func 105) ⟨[]⟩ ⟨[]⟩,.agg ⟨[vI 0,vI 0,vI 0,vI 0,vI 0,vI 0]⟩],.agg ⟨[vI 0,vI 0,vI 0,vI 0,vI 10000,vI 10000]⟩⟩
theorem kKnown33:KKnown33.Ok Try.prog:=CF.of2 noNG mixed (l:=[]) .nil 3000 (by kernel_rfl)
def KKnown34:CF:=⟨91,[.agg ⟨[vI 0,vI 0,vI 0,vI 0,vI 10000,vI 10000]⟩,.func (.func 111) ⟨[]⟩ ⟨[]⟩,.agg ⟨[vI 0,vI 0,vI 0,vI 0,vI 0,vI 0]⟩],.agg ⟨[vI 0,vI 0,vI 0,vI 0,vI 0,vI 0]⟩⟩
theorem kKnown34:KKnown34.Ok Try.prog:=CF.of2 noNG mixed (l:=[]) .nil 3000 (by kernel_rfl)
def KKnown35:CF:=⟨112,[.agg ⟨[vI 0,vI 0,vI 0,vI 0,vI 10000,vI 10000]⟩,.func (.func 111) ⟨[]⟩ ⟨[]⟩,.agg ⟨[vI 0,vI 0]⟩],.agg ⟨[vI 0,vI 0,vI 0,vI 0,vI 0,vI 0]⟩⟩
theorem kKnown35:KKnown35.Ok Try.prog:=CF.of2 noNG mixed (l:=[KKnown34]) (.cons kKnown34 .nil) 3000 (by kernel_rfl)
def KKnown36:CF:=⟨91,[.agg ⟨[vI 0,vI 0,vI 0,vI 0,vI 0,vI 0]⟩,.func (.func 113) ⟨[]⟩ ⟨[]⟩,.agg ⟨[vI 100000,vI 100000,vI 100000,vI 100000,vI 100000,vI 100000]⟩],.agg ⟨[vI 0,vI 0,vI 0,vI 0,vI 0,vI 0]⟩⟩
theorem kKnown36:KKnown36.Ok Try.prog:=CF.of2 noNG mixed (l:=[]) .nil 3000 (by kernel_rfl)
def KKnown37:CF:=⟨112,[.agg ⟨[vI 0,vI 0,vI 0,vI 0,vI 0,vI 0]⟩,.func (.func 113) ⟨[]⟩ ⟨[]⟩,.agg ⟨[vI 100000,vI 100000]⟩],.agg ⟨[vI 0,vI 0,vI 0,vI 0,vI 0,vI 0]⟩⟩
theorem kKnown37:KKnown37.Ok Try.prog:=CF.of2 noNG mixed (l:=[KKnown36]) (.cons kKnown36 .nil) 3000 (by kernel_rfl)
def KKnown40:CF:=⟨91,[.agg ⟨[vI 0,vI 0,vI 0,vI 0,vI 0,vI 0]⟩,.func (.func 98) ⟨[]⟩ ⟨[]⟩,.agg ⟨[vI 0,vI 0,vI 0,vI 0,vI 0,vI 0]⟩],.agg ⟨[vI 0,vI 0,vI 0,vI 0,vI 0,vI 0]⟩⟩
theorem kKnown40:KKnown40.Ok Try.prog:=CF.of2 noNG mixed (l:=[]) .nil 3000 (by kernel_rfl)
def KKnown41:CF:=⟨91,[.agg ⟨[vI 0,vI 0,vI 0,vI 0,vI 0,vI 0]⟩,.func (.func 98) ⟨[]⟩ ⟨[]⟩,.agg ⟨[vI 0,vI 0,vI 0,vI 0,vI 98,vI 98]⟩],.agg ⟨[vI 0,vI 0,vI 0,vI 0,vJ 97,vJ 97]⟩⟩
theorem kKnown41:KKnown41.Ok Try.prog:=CF.of2 noNG mixed (l:=[]) .nil 3000 (by kernel_rfl)
def KKnown50:CF:=⟨70,[lstV wKnown0 0 1 13,vI 0],.agg wKnown0⟩
theorem kKnown50:KKnown50.Ok Try.prog:=CF.of2 noNG mixed (l:=[]) .nil 3000 (by kernel_rfl)
def KKnown51:CF:=⟨97,[.agg wKnown5,.agg wKnown0],.agg ⟨[vJ 0,vI 1,vI 0,vI 0,vI 1000,vI 1000]⟩⟩
theorem kKnown51:KKnown51.Ok Try.prog:=CF.of2 noNG mixed (l:=[KKnown16,KKnown18,KKnown14]) (.cons kKnown16 (.cons kKnown18 (.cons kKnown14 .nil))) 3000 (by kernel_rfl)
def KKnown52:CF:=⟨99,[.agg wKnown5,.agg wKnown0,.agg ⟨[vI 0,vI 0,vI 0,vI 0,vI 0,vI 0,vI 0,vI 0,vI 0,vI 0,vI 0,vI 0]⟩],.agg ⟨[vI 0,vI 0,vI 0,vI 0,vI 0,vI 0]⟩⟩
theorem kKnown52:KKnown52.Ok Try.prog:=CF.of2 noNG mixed (l:=[KKnown20,KKnown21,KKnown23,KKnown25,KKnown27]) (.cons kKnown20 (.cons kKnown21 (.cons kKnown23 (.cons kKnown25 (.cons kKnown27 .nil))))) 3000 (by kernel_rfl)
def KKnown53:CF:=⟨69,[.agg wKnown5,.agg wKnown0,.agg ⟨[vI 0,vI 0,vI 0,vI 0,vI 0,vI 0,vI 0,vI 0,vI 0,vI 0,vI 0,vI 0]⟩],.agg ⟨[vJ 0,vI 1,vI 0,vI 0,vI 902,vI 902]⟩⟩
theorem kKnown53:KKnown53.Ok Try.prog:=CF.of2 noNG mixed (l:=[KKnown51,KKnown52,KKnown29,KKnown30]) (.cons kKnown51 (.cons kKnown52 (.cons kKnown29 (.cons kKnown30 .nil)))) 3000 (by kernel_rfl)
def KKnown54:CF:=⟨91,[.agg ⟨[vI 0,vI 0,vI 0,vI 0,vI 0,vI 0]⟩,.func (.func 105) ⟨[]⟩ ⟨[]⟩,.agg ⟨[vJ 0,vI 1,vI 0,vI 0,vI 902,vI 902]⟩],.agg ⟨[vJ 0,vI 1,vI 0,vI 0,vI 902,vI 902]⟩⟩
theorem kKnown54:KKnown54.Ok Try.prog:=CF.of2 noNG mixed (l:=[]) .nil 3000 (by kernel_rfl)
def KKnown55:CF:=⟨119,[.agg ⟨[vI 0,vI 0,vI 0,vI 0,vI 0,vI 0,vI 0,vI 0,vI 0,vI 0,vI 0,vI 0]⟩,.agg ⟨[vJ 0,vI 1,vI 0,vI 0,vI 902,vI 902]⟩],.agg wKnown7⟩
theorem kKnown55:KKnown55.Ok Try.prog:=CF.of2 noNG mixed (l:=[KKnown54]) (.cons kKnown54 .nil) 3000 (by kernel_rfl)
def KKnown56:CF:=⟨86,[.agg ⟨[vJ 0,vI 1,vI 0,vI 0,vI 902,vI 902]⟩,vI 2000000000],vT⟩
theorem kKnown56:KKnown56.Ok Try.prog:=CF.of2 noNG mixed (l:=[]) .nil 3000 (by kernel_rfl)
def KKnown57:CF:=⟨86,[.agg ⟨[vJ 0,vI 1,vI 0,vI 0,vI 902,vI 902]⟩,vI 1000000],vT⟩
theorem kKnown57:KKnown57.Ok Try.prog:=CF.of2 noNG mixed (l:=[]) .nil 3000 (by kernel_rfl)
def KKnown58:CF:=⟨68,[.agg wKnown7],vF⟩
theorem kKnown58:KKnown58.Ok Try.prog:=CF.of2 noNG mixed (l:=[KKnown56,KKnown57]) (.cons kKnown56 (.cons kKnown57 .nil)) 3000 (by kernel_rfl)
def KKnown60:CF:=⟨70,[lstV wKnown0 0 1 13,vI 1],.agg wKnown0⟩
theorem kKnown60:KKnown60.Ok Try.prog:=CF.of2 noNG mixed (l:=[]) .nil 3000 (by kernel_rfl)
def KKnown61:CF:=⟨55,[lstV wKnown2 0 2 7,.agg ⟨[vI 902,vI 902]⟩,.func (.func 57) ⟨[]⟩ ⟨[]⟩],.agg ⟨[vI 300,vI 300,vI 0,vI 0,vI 0,vI 0]⟩⟩
theorem kKnown61:KKnown61.Ok Try.prog:=CF.of2 noNG mixed (l:=[]) .nil 3000 (by kernel_rfl)
def KKnown62:CF:=⟨91,[.agg ⟨[vJ 0,vI 1,vI 0,vI 0,vI 902,vI 902]⟩,.func (.func 98) ⟨[]⟩ ⟨[]⟩,.agg ⟨[vI 300,vI 300,vI 0,vI 0,vI 0,vI 0]⟩],.agg ⟨[vJ 300,vJ 298,vI 0,vI 0,vI 902,vI 902]⟩⟩
theorem kKnown62:KKnown62.Ok Try.prog:=CF.of2 noNG mixed (l:=[]) .nil 3000 (by kernel_rfl)
def KKnown63:CF:=⟨125,[.agg ⟨[vI 903005,vI 904205]⟩],.agg ⟨[vI 950,vI 951]⟩⟩
theorem kKnown63:KKnown63.Ok Try.prog:=CF.of2 noNG mixed (l:=[]) .nil 3000 (by kernel_rfl)
def KKnown64:CF:=⟨116,[.agg ⟨[vJ 300,vJ 298,vI 0,vI 0,vI 902,vI 902]⟩],.agg ⟨[vI 950,vI 951]⟩⟩
theorem kKnown64:KKnown64.Ok Try.prog:=CF.of2 noNG mixed (l:=[KKnown63]) (.cons kKnown63 .nil) 3000 (by kernel_rfl)
def KKnown65:CF:=⟨91,[.agg ⟨[vJ 300,vJ 298,vI 0,vI 0,vI 902,vI 902]⟩,.func (.func 111) ⟨[]⟩ ⟨[]⟩,.agg ⟨[vI 0,vI 0,vI 0,vI 0,vI 0,vI 0]⟩],.agg ⟨[vI 0,vI 0,vI 0,vI 0,vI 0,vI 0]⟩⟩
theorem kKnown65:KKnown65.Ok Try.prog:=CF.of2 noNG mixed (l:=[]) .nil 3000 (by kernel_rfl)
def KKnown66:CF:=⟨112,[.agg ⟨[vJ 300,vJ 298,vI 0,vI 0,vI 902,vI 902]⟩,.func (.func 111) ⟨[]⟩ ⟨[]⟩,.agg ⟨[vI 0,vI 0]⟩],.agg ⟨[vI 0,vI 0,vI 0,vI 0,vI 0,vI 0]⟩⟩
theorem kKnown66:KKnown66.Ok Try.prog:=CF.of2 noNG mixed (l:=[KKnown65]) (.cons kKnown65 .nil) 3000 (by kernel_rfl)
def KKnown67:CF:=⟨99,[.agg wKnown5,.agg wKnown0,.agg wKnown7],.agg ⟨[vI 0,vI 0,vI 0,vI 0,vI 0,vI 0]⟩⟩
theorem kKnown67:KKnown67.Ok Try.prog:=CF.of2 noNG mixed (l:=[KKnown64,KKnown66,KKnown27,KKnown61,KKnown62]) (.cons kKnown64 (.cons kKnown66 (.cons kKnown27 (.cons kKnown61 (.cons kKnown62 .nil))))) 3000 (by kernel_rfl)
def KKnown68:CF:=⟨69,[.agg wKnown5,.agg wKnown0,.agg wKnown7],.agg ⟨[vJ 0,vI 1,vI 0,vI 0,vI 902,vI 902]⟩⟩
theorem kKnown68:KKnown68.Ok Try.prog:=CF.of2 noNG mixed (l:=[KKnown67,KKnown51,KKnown29,KKnown30]) (.cons kKnown67 (.cons kKnown51 (.cons kKnown29 (.cons kKnown30 .nil)))) 3000 (by kernel_rfl)
def KKnown69:CF:=⟨91,[.agg ⟨[vJ 0,vI 1,vI 0,vI 0,vI 902,vI 902]⟩,.func (.func 105) ⟨[]⟩ ⟨[]⟩,.agg ⟨[vJ 0,vI 1,vI 0,vI 0,vI 902,vI 902]⟩],.agg ⟨[vJ 1,vI 2,vI 0,vI 0,vI 1804,vI 1804]⟩⟩
theorem kKnown69:KKnown69.Ok Try.prog:=CF.of2 noNG mixed (l:=[]) .nil 3000 (by kernel_rfl)
def KKnown70:CF:=⟨91,[.agg ⟨[vJ 0,vI 1,vI 0,vI 0,vI 902,vI 902]⟩,.func (.func 105) ⟨[]⟩ ⟨[]⟩,.agg ⟨[vJ 1,vI 2,vI 0,vI 0,vI 1804,vI 1804]⟩],.agg ⟨[vJ 2,vI 3,vI 0,vI 0,vI 2706,vI 2706]⟩⟩
theorem kKnown70:KKnown70.Ok Try.prog:=CF.of2 noNG mixed (l:=[]) .nil 3000 (by kernel_rfl)
def KKnown71:CF:=⟨119,[.agg wKnown7,.agg ⟨[vJ 0,vI 1,vI 0,vI 0,vI 902,vI 902]⟩],.agg wKnown8⟩
theorem kKnown71:KKnown71.Ok Try.prog:=CF.of2 noNG mixed (l:=[KKnown69,KKnown70]) (.cons kKnown69 (.cons kKnown70 .nil)) 3000 (by kernel_rfl)
def KKnown72:CF:=⟨86,[.agg ⟨[vJ 2,vI 3,vI 0,vI 0,vI 2706,vI 2706]⟩,vI 2000000000],vT⟩
theorem kKnown72:KKnown72.Ok Try.prog:=CF.of2 noNG mixed (l:=[]) .nil 3000 (by kernel_rfl)
def KKnown73:CF:=⟨86,[.agg ⟨[vJ 1,vI 2,vI 0,vI 0,vI 1804,vI 1804]⟩,vI 1000000],vT⟩
theorem kKnown73:KKnown73.Ok Try.prog:=CF.of2 noNG mixed (l:=[]) .nil 3000 (by kernel_rfl)
def KKnown74:CF:=⟨68,[.agg wKnown8],vF⟩
theorem kKnown74:KKnown74.Ok Try.prog:=CF.of2 noNG mixed (l:=[KKnown72,KKnown73]) (.cons kKnown72 (.cons kKnown73 .nil)) 3000 (by kernel_rfl)
def KKnown76:CF:=⟨70,[lstV wKnown0 0 1 13,vI 2],.agg ⟨[vI 0,vI 0,vI 0,vI 10,vI 10,vI 0,vI 0,vI 0,vI 0,vI 0,vI 0,vI 0,vI 0]⟩⟩
theorem kKnown76:KKnown76.Ok Try.prog:=CF.of2 noNG mixed (l:=[]) .nil 3000 (by kernel_rfl)
def KKnown77:CF:=⟨97,[.agg wKnown5,.agg ⟨[vI 0,vI 0,vI 0,vI 10,vI 10,vI 0,vI 0,vI 0,vI 0,vI 0,vI 0,vI 0,vI 0]⟩],.agg ⟨[vI 0,vI 0,vI 0,vI 0,vI 0,vI 0]⟩⟩
theorem kKnown77:KKnown77.Ok Try.prog:=CF.of2 noNG mixed (l:=[KKnown33,KKnown35,KKnown37]) (.cons kKnown33 (.cons kKnown35 (.cons kKnown37 .nil))) 3000 (by kernel_rfl)
def KKnown78:CF:=⟨55,[lstV wKnown2 0 2 7,.agg ⟨[vI 2706,vI 2706]⟩,.func (.func 57) ⟨[]⟩ ⟨[]⟩],.agg ⟨[vI 300,vI 300,vI 0,vI 0,vI 0,vI 0]⟩⟩
theorem kKnown78:KKnown78.Ok Try.prog:=CF.of2 noNG mixed (l:=[]) .nil 3000 (by kernel_rfl)
def KKnown79:CF:=⟨91,[.agg ⟨[vJ 1,vI 2,vI 0,vI 0,vI 1804,vI 1804]⟩,.func (.func 98) ⟨[]⟩ ⟨[]⟩,.agg ⟨[vI 300,vI 300,vI 0,vI 0,vI 0,vI 0]⟩],.agg ⟨[vJ 301,vJ 297,vI 0,vI 0,vI 1804,vI 1804]⟩⟩
theorem kKnown79:KKnown79.Ok Try.prog:=CF.of2 noNG mixed (l:=[]) .nil 3000 (by kernel_rfl)
def KKnown80:CF:=⟨125,[.agg ⟨[vI 3343220,vI 3345620]⟩],.agg ⟨[vI 1828,vI 1830]⟩⟩
theorem kKnown80:KKnown80.Ok Try.prog:=CF.of2 noNG mixed (l:=[]) .nil 3000 (by kernel_rfl)
def KKnown81:CF:=⟨116,[.agg ⟨[vJ 301,vJ 297,vI 0,vI 0,vI 1804,vI 1804]⟩],.agg ⟨[vI 1828,vI 1830]⟩⟩
theorem kKnown81:KKnown81.Ok Try.prog:=CF.of2 noNG mixed (l:=[KKnown80]) (.cons kKnown80 .nil) 3000 (by kernel_rfl)
def KKnown82:CF:=⟨91,[.agg ⟨[vJ 301,vJ 297,vI 0,vI 0,vI 1804,vI 1804]⟩,.func (.func 111) ⟨[]⟩ ⟨[]⟩,.agg ⟨[vI 0,vI 0,vI 0,vI 0,vI 0,vI 0]⟩],.agg ⟨[vI 0,vI 0,vI 0,vI 0,vI 0,vI 0]⟩⟩
theorem kKnown82:KKnown82.Ok Try.prog:=CF.of2 noNG mixed (l:=[]) .nil 3000 (by kernel_rfl)
def KKnown83:CF:=⟨112,[.agg ⟨[vJ 301,vJ 297,vI 0,vI 0,vI 1804,vI 1804]⟩,.func (.func 111) ⟨[]⟩ ⟨[]⟩,.agg ⟨[vI 0,vI 0]⟩],.agg ⟨[vI 0,vI 0,vI 0,vI 0,vI 0,vI 0]⟩⟩
theorem kKnown83:KKnown83.Ok Try.prog:=CF.of2 noNG mixed (l:=[KKnown82]) (.cons kKnown82 .nil) 3000 (by kernel_rfl)
def KKnown84:CF:=⟨99,[.agg wKnown5,.agg ⟨[vI 0,vI 0,vI 0,vI 10,vI 10,vI 0,vI 0,vI 0,vI 0,vI 0,vI 0,vI 0,vI 0]⟩,.agg wKnown8],.agg ⟨[vI 0,vI 0,vI 0,vI 0,vI 0,vI 0]⟩⟩
theorem kKnown84:KKnown84.Ok Try.prog:=CF.of2 noNG mixed (l:=[KKnown78,KKnown79,KKnown81,KKnown83,KKnown27]) (.cons kKnown78 (.cons kKnown79 (.cons kKnown81 (.cons kKnown83 (.cons kKnown27 .nil))))) 3000 (by kernel_rfl)
def KKnown85:CF:=⟨69,[.agg wKnown5,.agg ⟨[vI 0,vI 0,vI 0,vI 10,vI 10,vI 0,vI 0,vI 0,vI 0,vI 0,vI 0,vI 0,vI 0]⟩,.agg wKnown8],.agg ⟨[vI 0,vI 0,vI 0,vI 0,vJ 97,vJ 97]⟩⟩
theorem kKnown85:KKnown85.Ok Try.prog:=CF.of2 noNG mixed (l:=[KKnown40,KKnown41,KKnown84,KKnown77]) (.cons kKnown40 (.cons kKnown41 (.cons kKnown84 (.cons kKnown77 .nil)))) 3000 (by kernel_rfl)
def KKnown86:CF:=⟨91,[.agg ⟨[vJ 1,vI 2,vI 0,vI 0,vI 1804,vI 1804]⟩,.func (.func 105) ⟨[]⟩ ⟨[]⟩,.agg ⟨[vI 0,vI 0,vI 0,vI 0,vJ 97,vJ 97]⟩],.agg ⟨[vJ 1,vI 2,vI 0,vI 0,vI 1706,vI 1706]⟩⟩
theorem kKnown86:KKnown86.Ok Try.prog:=CF.of2 noNG mixed (l:=[]) .nil 3000 (by kernel_rfl)
def KKnown87:CF:=⟨91,[.agg ⟨[vJ 2,vI 3,vI 0,vI 0,vI 2706,vI 2706]⟩,.func (.func 105) ⟨[]⟩ ⟨[]⟩,.agg ⟨[vJ 1,vI 2,vI 0,vI 0,vI 1706,vI 1706]⟩],.agg ⟨[vJ 4,vI 5,vI 0,vI 0,vI 4412,vI 4412]⟩⟩
theorem kKnown87:KKnown87.Ok Try.prog:=CF.of2 noNG mixed (l:=[]) .nil 3000 (by kernel_rfl)
def KKnown88:CF:=⟨119,[.agg wKnown8,.agg ⟨[vI 0,vI 0,vI 0,vI 0,vJ 97,vJ 97]⟩],.agg wKnown9⟩
theorem kKnown88:KKnown88.Ok Try.prog:=CF.of2 noNG mixed (l:=[KKnown86,KKnown87]) (.cons kKnown86 (.cons kKnown87 .nil)) 3000 (by kernel_rfl)
def KKnown89:CF:=⟨86,[.agg ⟨[vJ 4,vI 5,vI 0,vI 0,vI 4412,vI 4412]⟩,vI 2000000000],vT⟩
theorem kKnown89:KKnown89.Ok Try.prog:=CF.of2 noNG mixed (l:=[]) .nil 3000 (by kernel_rfl)
def KKnown90:CF:=⟨86,[.agg ⟨[vJ 1,vI 2,vI 0,vI 0,vI 1706,vI 1706]⟩,vI 1000000],vT⟩
theorem kKnown90:KKnown90.Ok Try.prog:=CF.of2 noNG mixed (l:=[]) .nil 3000 (by kernel_rfl)
def KKnown91:CF:=⟨68,[.agg wKnown9],vF⟩
theorem kKnown91:KKnown91.Ok Try.prog:=CF.of2 noNG mixed (l:=[KKnown89,KKnown90]) (.cons kKnown89 (.cons kKnown90 .nil)) 3000 (by kernel_rfl)
def KKnown93:CF:=⟨70,[lstV wKnown0 0 1 13,vI 3],.agg ⟨[vI 0,vI 0,vI 0,vI 10,vI 10,vI 0,vI 0,vI 0,vI 0,vI 0,vI 0,vI 0,vI 0]⟩⟩
theorem kKnown93:KKnown93.Ok Try.prog:=CF.of2 noNG mixed (l:=[]) .nil 3000 (by kernel_rfl)
def KKnown94:CF:=⟨55,[lstV wKnown2 0 2 7,.agg ⟨[vI 4412,vI 4412]⟩,.func (.func 57) ⟨[]⟩ ⟨[]⟩],.agg ⟨[vI 300,vI 300,vI 0,vI 0,vI 0,vI 0]⟩⟩
theorem kKnown94:KKnown94.Ok Try.prog:=CF.of2 noNG mixed (l:=[]) .nil 3000 (by kernel_rfl)
def KKnown95:CF:=⟨91,[.agg ⟨[vJ 1,vI 2,vI 0,vI 0,vI 1706,vI 1706]⟩,.func (.func 98) ⟨[]⟩ ⟨[]⟩,.agg ⟨[vI 300,vI 300,vI 0,vI 0,vI 0,vI 0]⟩],.agg ⟨[vJ 301,vJ 297,vI 0,vI 0,vI 1706,vI 1706]⟩⟩
theorem kKnown95:KKnown95.Ok Try.prog:=CF.of2 noNG mixed (l:=[]) .nil 3000 (by kernel_rfl)
def KKnown96:CF:=⟨125,[.agg ⟨[vI 2999240,vI 3001640]⟩],.agg ⟨[vI 1731,vI 1733]⟩⟩
theorem kKnown96:KKnown96.Ok Try.prog:=CF.of2 noNG mixed (l:=[]) .nil 3000 (by kernel_rfl)
def KKnown97:CF:=⟨116,[.agg ⟨[vJ 301,vJ 297,vI 0,vI 0,vI 1706,vI 1706]⟩],.agg ⟨[vI 1731,vI 1733]⟩⟩
theorem kKnown97:KKnown97.Ok Try.prog:=CF.of2 noNG mixed (l:=[KKnown96]) (.cons kKnown96 .nil) 3000 (by kernel_rfl)
def KKnown98:CF:=⟨91,[.agg ⟨[vJ 301,vJ 297,vI 0,vI 0,vI 1706,vI 1706]⟩,.func (.func 111) ⟨[]⟩ ⟨[]⟩,.agg ⟨[vI 0,vI 0,vI 0,vI 0,vI 0,vI 0]⟩],.agg ⟨[vI 0,vI 0,vI 0,vI 0,vI 0,vI 0]⟩⟩
theorem kKnown98:KKnown98.Ok Try.prog:=CF.of2 noNG mixed (l:=[]) .nil 3000 (by kernel_rfl)
def KKnown99:CF:=⟨112,[.agg ⟨[vJ 301,vJ 297,vI 0,vI 0,vI 1706,vI 1706]⟩,.func (.func 111) ⟨[]⟩ ⟨[]⟩,.agg ⟨[vI 0,vI 0]⟩],.agg ⟨[vI 0,vI 0,vI 0,vI 0,vI 0,vI 0]⟩⟩
theorem kKnown99:KKnown99.Ok Try.prog:=CF.of2 noNG mixed (l:=[KKnown98]) (.cons kKnown98 .nil) 3000 (by kernel_rfl)
def KKnown100:CF:=⟨99,[.agg wKnown5,.agg ⟨[vI 0,vI 0,vI 0,vI 10,vI 10,vI 0,vI 0,vI 0,vI 0,vI 0,vI 0,vI 0,vI 0]⟩,.agg wKnown9],.agg ⟨[vI 0,vI 0,vI 0,vI 0,vI 0,vI 0]⟩⟩
theorem kKnown100:KKnown100.Ok Try.prog:=CF.of2 noNG mixed (l:=[KKnown97,KKnown99,KKnown27,KKnown94,KKnown95]) (.cons kKnown97 (.cons kKnown99 (.cons kKnown27 (.cons kKnown94 (.cons kKnown95 .nil))))) 3000 (by kernel_rfl)
def KKnown101:CF:=⟨69,[.agg wKnown5,.agg ⟨[vI 0,vI 0,vI 0,vI 10,vI 10,vI 0,vI 0,vI 0,vI 0,vI 0,vI 0,vI 0,vI 0]⟩,.agg wKnown9],.agg ⟨[vI 0,vI 0,vI 0,vI 0,vJ 97,vJ 97]⟩⟩
theorem kKnown101:KKnown101.Ok Try.prog:=CF.of2 noNG mixed (l:=[KKnown40,KKnown41,KKnown100,KKnown77]) (.cons kKnown40 (.cons kKnown41 (.cons kKnown100 (.cons kKnown77 .nil)))) 3000 (by kernel_rfl)
def KKnown102:CF:=⟨91,[.agg ⟨[vJ 1,vI 2,vI 0,vI 0,vI 1706,vI 1706]⟩,.func (.func 105) ⟨[]⟩ ⟨[]⟩,.agg ⟨[vI 0,vI 0,vI 0,vI 0,vJ 97,vJ 97]⟩],.agg ⟨[vJ 1,vI 2,vI 0,vI 0,vI 1608,vI 1608]⟩⟩
theorem kKnown102:KKnown102.Ok Try.prog:=CF.of2 noNG mixed (l:=[]) .nil 3000 (by kernel_rfl)
def KKnown103:CF:=⟨91,[.agg ⟨[vJ 4,vI 5,vI 0,vI 0,vI 4412,vI 4412]⟩,.func (.func 105) ⟨[]⟩ ⟨[]⟩,.agg ⟨[vJ 1,vI 2,vI 0,vI 0,vI 1608,vI 1608]⟩],.agg ⟨[vJ 6,vI 7,vI 0,vI 0,vI 6020,vI 6020]⟩⟩
theorem kKnown103:KKnown103.Ok Try.prog:=CF.of2 noNG mixed (l:=[]) .nil 3000 (by kernel_rfl)
def KKnown104:CF:=⟨119,[.agg wKnown9,.agg ⟨[vI 0,vI 0,vI 0,vI 0,vJ 97,vJ 97]⟩],.agg wKnown10⟩
theorem kKnown104:KKnown104.Ok Try.prog:=CF.of2 noNG mixed (l:=[KKnown102,KKnown103]) (.cons kKnown102 (.cons kKnown103 .nil)) 3000 (by kernel_rfl)
def KKnown116:CF:=⟨86,[.agg ⟨[vJ 6,vI 7,vI 0,vI 0,vI 6020,vI 6020]⟩,vI 2000000000],vT⟩
theorem kKnown116:KKnown116.Ok Try.prog:=CF.of2 noNG mixed (l:=[]) .nil 3000 (by kernel_rfl)
def KKnown117:CF:=⟨86,[.agg ⟨[vJ 1,vI 2,vI 0,vI 0,vI 1608,vI 1608]⟩,vI 1000000],vT⟩
theorem kKnown117:KKnown117.Ok Try.prog:=CF.of2 noNG mixed (l:=[]) .nil 3000 (by kernel_rfl)
def KKnown118:CF:=⟨68,[.agg wKnown10],vF⟩
theorem kKnown118:KKnown118.Ok Try.prog:=CF.of2 noNG mixed (l:=[KKnown116,KKnown117]) (.cons kKnown116 (.cons kKnown117 .nil)) 3000 (by kernel_rfl)
def KKnown120:CF:=⟨70,[lstV wKnown0 0 1 13,vI 4],.agg ⟨[vI 0,vI 0,vI 0,vI 10,vI 10,vI 0,vI 0,vI 0,vI 0,vI 0,vI 0,vI 0,vI 0]⟩⟩
theorem kKnown120:KKnown120.Ok Try.prog:=CF.of2 noNG mixed (l:=[]) .nil 3000 (by kernel_rfl)
def KKnown121:CF:=⟨55,[lstV wKnown2 0 2 7,.agg ⟨[vI 6020,vI 6020]⟩,.func (.func 57) ⟨[]⟩ ⟨[]⟩],.agg ⟨[vI 300,vI 300,vI 0,vI 0,vI 0,vI 0]⟩⟩
theorem kKnown121:KKnown121.Ok Try.prog:=CF.of2 noNG mixed (l:=[]) .nil 3000 (by kernel_rfl)
def KKnown122:CF:=⟨91,[.agg ⟨[vJ 1,vI 2,vI 0,vI 0,vI 1608,vI 1608]⟩,.func (.func 98) ⟨[]⟩ ⟨[]⟩,.agg ⟨[vI 300,vI 300,vI 0,vI 0,vI 0,vI 0]⟩],.agg ⟨[vJ 301,vJ 297,vI 0,vI 0,vI 1608,vI 1608]⟩⟩
theorem kKnown122:KKnown122.Ok Try.prog:=CF.of2 noNG mixed (l:=[]) .nil 3000 (by kernel_rfl)
def KKnown123:CF:=⟨125,[.agg ⟨[vI 2674468,vI 2676868]⟩],.agg ⟨[vI 1635,vI 1637]⟩⟩
theorem kKnown123:KKnown123.Ok Try.prog:=CF.of2 noNG mixed (l:=[]) .nil 3000 (by kernel_rfl)
def KKnown124:CF:=⟨116,[.agg ⟨[vJ 301,vJ 297,vI 0,vI 0,vI 1608,vI 1608]⟩],.agg ⟨[vI 1635,vI 1637]⟩⟩
theorem kKnown124:KKnown124.Ok Try.prog:=CF.of2 noNG mixed (l:=[KKnown123]) (.cons kKnown123 .nil) 3000 (by kernel_rfl)
def KKnown125:CF:=⟨91,[.agg ⟨[vJ 301,vJ 297,vI 0,vI 0,vI 1608,vI 1608]⟩,.func (.func 111) ⟨[]⟩ ⟨[]⟩,.agg ⟨[vI 0,vI 0,vI 0,vI 0,vI 0,vI 0]⟩],.agg ⟨[vI 0,vI 0,vI 0,vI 0,vI 0,vI 0]⟩⟩
theorem kKnown125:KKnown125.Ok Try.prog:=CF.of2 noNG mixed (l:=[]) .nil 3000 (by kernel_rfl)
def KKnown126:CF:=⟨112,[.agg ⟨[vJ 301,vJ 297,vI 0,vI 0,vI 1608,vI 1608]⟩,.func (.func 111) ⟨[]⟩ ⟨[]⟩,.agg ⟨[vI 0,vI 0]⟩],.agg ⟨[vI 0,vI 0,vI 0,vI 0,vI 0,vI 0]⟩⟩
theorem kKnown126:KKnown126.Ok Try.prog:=CF.of2 noNG mixed (l:=[KKnown125]) (.cons kKnown125 .nil) 3000 (by kernel_rfl)
def KKnown127:CF:=⟨99,[.agg wKnown5,.agg ⟨[vI 0,vI 0,vI 0,vI 10,vI 10,vI 0,vI 0,vI 0,vI 0,vI 0,vI 0,vI 0,vI 0]⟩,.agg wKnown10],.agg ⟨[vI 0,vI 0,vI 0,vI 0,vI 0,vI 0]⟩⟩
theorem kKnown127:KKnown127.Ok Try.prog:=CF.of2 noNG mixed (l:=[KKnown121,KKnown122,KKnown27,KKnown124,KKnown126]) (.cons kKnown121 (.cons kKnown122 (.cons kKnown27 (.cons kKnown124 (.cons kKnown126 .nil))))) 3000 (by kernel_rfl)
def KKnown128:CF:=⟨69,[.agg wKnown5,.agg ⟨[vI 0,vI 0,vI 0,vI 10,vI 10,vI 0,vI 0,vI 0,vI 0,vI 0,vI 0,vI 0,vI 0]⟩,.agg wKnown10],.agg ⟨[vI 0,vI 0,vI 0,vI 0,vJ 97,vJ 97]⟩⟩
theorem kKnown128:KKnown128.Ok Try.prog:=CF.of2 noNG mixed (l:=[KKnown40,KKnown41,KKnown77,KKnown127]) (.cons kKnown40 (.cons kKnown41 (.cons kKnown77 (.cons kKnown127 .nil)))) 3000 (by kernel_rfl)
def KKnown129:CF:=⟨91,[.agg ⟨[vJ 1,vI 2,vI 0,vI 0,vI 1608,vI 1608]⟩,.func (.func 105) ⟨[]⟩ ⟨[]⟩,.agg ⟨[vI 0,vI 0,vI 0,vI 0,vJ 97,vJ 97]⟩],.agg ⟨[vJ 1,vI 2,vI 0,vI 0,vI 1510,vI 1510]⟩⟩
theorem kKnown129:KKnown129.Ok Try.prog:=CF.of2 noNG mixed (l:=[]) .nil 3000 (by kernel_rfl)
def KKnown130:CF:=⟨91,[.agg ⟨[vJ 6,vI 7,vI 0,vI 0,vI 6020,vI 6020]⟩,.func (.func 105) ⟨[]⟩ ⟨[]⟩,.agg ⟨[vJ 1,vI 2,vI 0,vI 0,vI 1510,vI 1510]⟩],.agg ⟨[vJ 8,vI 9,vI 0,vI 0,vI 7530,vI 7530]⟩⟩
theorem kKnown130:KKnown130.Ok Try.prog:=CF.of2 noNG mixed (l:=[]) .nil 3000 (by kernel_rfl)
def KKnown131:CF:=⟨119,[.agg wKnown10,.agg ⟨[vI 0,vI 0,vI 0,vI 0,vJ 97,vJ 97]⟩],.agg wKnown13⟩
theorem kKnown131:KKnown131.Ok Try.prog:=CF.of2 noNG mixed (l:=[KKnown129,KKnown130]) (.cons kKnown129 (.cons kKnown130 .nil)) 3000 (by kernel_rfl)
def KKnown132:CF:=⟨86,[.agg ⟨[vJ 8,vI 9,vI 0,vI 0,vI 7530,vI 7530]⟩,vI 2000000000],vT⟩
theorem kKnown132:KKnown132.Ok Try.prog:=CF.of2 noNG mixed (l:=[]) .nil 3000 (by kernel_rfl)
def KKnown133:CF:=⟨86,[.agg ⟨[vJ 1,vI 2,vI 0,vI 0,vI 1510,vI 1510]⟩,vI 1000000],vT⟩
theorem kKnown133:KKnown133.Ok Try.prog:=CF.of2 noNG mixed (l:=[]) .nil 3000 (by kernel_rfl)
def KKnown134:CF:=⟨68,[.agg wKnown13],vF⟩
theorem kKnown134:KKnown134.Ok Try.prog:=CF.of2 noNG mixed (l:=[KKnown132,KKnown133]) (.cons kKnown132 (.cons kKnown133 .nil)) 3000 (by kernel_rfl)
def KKnown136:CF:=⟨70,[lstV wKnown0 0 1 13,vI 5],.agg ⟨[vI 0,vI 0,vI 0,vI 10,vI 10,vI 0,vI 0,vI 0,vI 0,vI 0,vI 0,vI 0,vI 0]⟩⟩
theorem kKnown136:KKnown136.Ok Try.prog:=CF.of2 noNG mixed (l:=[]) .nil 3000 (by kernel_rfl)
def KKnown137:CF:=⟨55,[lstV wKnown2 0 2 7,.agg ⟨[vI 7530,vI 7530]⟩,.func (.func 57) ⟨[]⟩ ⟨[]⟩],.agg ⟨[vI 300,vI 300,vI 0,vI 0,vI 0,vI 0]⟩⟩
theorem kKnown137:KKnown137.Ok Try.prog:=CF.of2 noNG mixed (l:=[]) .nil 3000 (by kernel_rfl)
def KKnown138:CF:=⟨91,[.agg ⟨[vJ 1,vI 2,vI 0,vI 0,vI 1510,vI 1510]⟩,.func (.func 98) ⟨[]⟩ ⟨[]⟩,.agg ⟨[vI 300,vI 300,vI 0,vI 0,vI 0,vI 0]⟩],.agg ⟨[vJ 301,vJ 297,vI 0,vI 0,vI 1510,vI 1510]⟩⟩
theorem kKnown138:KKnown138.Ok Try.prog:=CF.of2 noNG mixed (l:=[]) .nil 3000 (by kernel_rfl)
def KKnown139:CF:=⟨125,[.agg ⟨[vI 2368904,vI 2371304]⟩],.agg ⟨[vI 1539,vI 1540]⟩⟩
theorem kKnown139:KKnown139.Ok Try.prog:=CF.of2 noNG mixed (l:=[]) .nil 3000 (by kernel_rfl)
def KKnown140:CF:=⟨116,[.agg ⟨[vJ 301,vJ 297,vI 0,vI 0,vI 1510,vI 1510]⟩],.agg ⟨[vI 1539,vI 1540]⟩⟩
theorem kKnown140:KKnown140.Ok Try.prog:=CF.of2 noNG mixed (l:=[KKnown139]) (.cons kKnown139 .nil) 3000 (by kernel_rfl)
def KKnown141:CF:=⟨91,[.agg ⟨[vJ 301,vJ 297,vI 0,vI 0,vI 1510,vI 1510]⟩,.func (.func 111) ⟨[]⟩ ⟨[]⟩,.agg ⟨[vI 0,vI 0,vI 0,vI 0,vI 0,vI 0]⟩],.agg ⟨[vI 0,vI 0,vI 0,vI 0,vI 0,vI 0]⟩⟩
theorem kKnown141:KKnown141.Ok Try.prog:=CF.of2 noNG mixed (l:=[]) .nil 3000 (by kernel_rfl)
def KKnown142:CF:=⟨112,[.agg ⟨[vJ 301,vJ 297,vI 0,vI 0,vI 1510,vI 1510]⟩,.func (.func 111) ⟨[]⟩ ⟨[]⟩,.agg ⟨[vI 0,vI 0]⟩],.agg ⟨[vI 0,vI 0,vI 0,vI 0,vI 0,vI 0]⟩⟩
theorem kKnown142:KKnown142.Ok Try.prog:=CF.of2 noNG mixed (l:=[KKnown141]) (.cons kKnown141 .nil) 3000 (by kernel_rfl)
def KKnown143:CF:=⟨99,[.agg wKnown5,.agg ⟨[vI 0,vI 0,vI 0,vI 10,vI 10,vI 0,vI 0,vI 0,vI 0,vI 0,vI 0,vI 0,vI 0]⟩,.agg wKnown13],.agg ⟨[vI 0,vI 0,vI 0,vI 0,vI 0,vI 0]⟩⟩
theorem kKnown143:KKnown143.Ok Try.prog:=CF.of2 noNG mixed (l:=[KKnown137,KKnown138,KKnown140,KKnown142,KKnown27]) (.cons kKnown137 (.cons kKnown138 (.cons kKnown140 (.cons kKnown142 (.cons kKnown27 .nil))))) 3000 (by kernel_rfl)
def KKnown144:CF:=⟨69,[.agg wKnown5,.agg ⟨[vI 0,vI 0,vI 0,vI 10,vI 10,vI 0,vI 0,vI 0,vI 0,vI 0,vI 0,vI 0,vI 0]⟩,.agg wKnown13],.agg ⟨[vI 0,vI 0,vI 0,vI 0,vJ 97,vJ 97]⟩⟩
theorem kKnown144:KKnown144.Ok Try.prog:=CF.of2 noNG mixed (l:=[KKnown40,KKnown41,KKnown77,KKnown143]) (.cons kKnown40 (.cons kKnown41 (.cons kKnown77 (.cons kKnown143 .nil)))) 3000 (by kernel_rfl)
def KKnown145:CF:=⟨91,[.agg ⟨[vJ 1,vI 2,vI 0,vI 0,vI 1510,vI 1510]⟩,.func (.func 105) ⟨[]⟩ ⟨[]⟩,.agg ⟨[vI 0,vI 0,vI 0,vI 0,vJ 97,vJ 97]⟩],.agg ⟨[vJ 1,vI 2,vI 0,vI 0,vI 1412,vI 1412]⟩⟩
theorem kKnown145:KKnown145.Ok Try.prog:=CF.of2 noNG mixed (l:=[]) .nil 3000 (by kernel_rfl)
def KKnown146:CF:=⟨91,[.agg ⟨[vJ 8,vI 9,vI 0,vI 0,vI 7530,vI 7530]⟩,.func (.func 105) ⟨[]⟩ ⟨[]⟩,.agg ⟨[vJ 1,vI 2,vI 0,vI 0,vI 1412,vI 1412]⟩],.agg ⟨[vJ 10,vI 11,vI 0,vI 0,vI 8942,vI 8942]⟩⟩
theorem kKnown146:KKnown146.Ok Try.prog:=CF.of2 noNG mixed (l:=[]) .nil 3000 (by kernel_rfl)
def KKnown147:CF:=⟨119,[.agg wKnown13,.agg ⟨[vI 0,vI 0,vI 0,vI 0,vJ 97,vJ 97]⟩],.agg wKnown14⟩
theorem kKnown147:KKnown147.Ok Try.prog:=CF.of2 noNG mixed (l:=[KKnown145,KKnown146]) (.cons kKnown145 (.cons kKnown146 .nil)) 3000 (by kernel_rfl)
def KKnown148:CF:=⟨86,[.agg ⟨[vJ 10,vI 11,vI 0,vI 0,vI 8942,vI 8942]⟩,vI 2000000000],vT⟩
theorem kKnown148:KKnown148.Ok Try.prog:=CF.of2 noNG mixed (l:=[]) .nil 3000 (by kernel_rfl)
def KKnown149:CF:=⟨86,[.agg ⟨[vJ 1,vI 2,vI 0,vI 0,vI 1412,vI 1412]⟩,vI 1000000],vT⟩
theorem kKnown149:KKnown149.Ok Try.prog:=CF.of2 noNG mixed (l:=[]) .nil 3000 (by kernel_rfl)
def KKnown150:CF:=⟨68,[.agg wKnown14],vF⟩
theorem kKnown150:KKnown150.Ok Try.prog:=CF.of2 noNG mixed (l:=[KKnown148,KKnown149]) (.cons kKnown148 (.cons kKnown149 .nil)) 3000 (by kernel_rfl)
def KKnown152:CF:=⟨70,[lstV wKnown0 0 1 13,vI 6],.agg ⟨[vI 0,vI 0,vI 0,vI 10,vI 10,vI 0,vI 0,vI 0,vI 0,vI 0,vI 0,vI 0,vI 0]⟩⟩
theorem kKnown152:KKnown152.Ok Try.prog:=CF.of2 noNG mixed (l:=[]) .nil 3000 (by kernel_rfl)
def KKnown153:CF:=⟨55,[lstV wKnown2 0 2 7,.agg ⟨[vI 8942,vI 8942]⟩,.func (.func 57) ⟨[]⟩ ⟨[]⟩],.agg ⟨[vI 300,vI 300,vI 0,vI 0,vI 0,vI 0]⟩⟩
theorem kKnown153:KKnown153.Ok Try.prog:=CF.of2 noNG mixed (l:=[]) .nil 3000 (by kernel_rfl)
def KKnown154:CF:=⟨91,[.agg ⟨[vJ 1,vI 2,vI 0,vI 0,vI 1412,vI 1412]⟩,.func (.func 98) ⟨[]⟩ ⟨[]⟩,.agg ⟨[vI 300,vI 300,vI 0,vI 0,vI 0,vI 0]⟩],.agg ⟨[vJ 301,vJ 297,vI 0,vI 0,vI 1412,vI 1412]⟩⟩
theorem kKnown154:KKnown154.Ok Try.prog:=CF.of2 noNG mixed (l:=[]) .nil 3000 (by kernel_rfl)
def KKnown155:CF:=⟨125,[.agg ⟨[vI 2082548,vI 2084948]⟩],.agg ⟨[vI 1443,vI 1444]⟩⟩
theorem kKnown155:KKnown155.Ok Try.prog:=CF.of2 noNG mixed (l:=[]) .nil 3000 (by kernel_rfl)
def KKnown156:CF:=⟨116,[.agg ⟨[vJ 301,vJ 297,vI 0,vI 0,vI 1412,vI 1412]⟩],.agg ⟨[vI 1443,vI 1444]⟩⟩
theorem kKnown156:KKnown156.Ok Try.prog:=CF.of2 noNG mixed (l:=[KKnown155]) (.cons kKnown155 .nil) 3000 (by kernel_rfl)
def KKnown157:CF:=⟨91,[.agg ⟨[vJ 301,vJ 297,vI 0,vI 0,vI 1412,vI 1412]⟩,.func (.func 111) ⟨[]⟩ ⟨[]⟩,.agg ⟨[vI 0,vI 0,vI 0,vI 0,vI 0,vI 0]⟩],.agg ⟨[vI 0,vI 0,vI 0,vI 0,vI 0,vI 0]⟩⟩
theorem kKnown157:KKnown157.Ok Try.prog:=CF.of2 noNG mixed (l:=[]) .nil 3000 (by kernel_rfl)
def KKnown158:CF:=⟨112,[.agg ⟨[vJ 301,vJ 297,vI 0,vI 0,vI 1412,vI 1412]⟩,.func (.func 111) ⟨[]⟩ ⟨[]⟩,.agg ⟨[vI 0,vI 0]⟩],.agg ⟨[vI 0,vI 0,vI 0,vI 0,vI 0,vI 0]⟩⟩
theorem kKnown158:KKnown158.Ok Try.prog:=CF.of2 noNG mixed (l:=[KKnown157]) (.cons kKnown157 .nil) 3000 (by kernel_rfl)
def KKnown159:CF:=⟨99,[.agg wKnown5,.agg ⟨[vI 0,vI 0,vI 0,vI 10,vI 10,vI 0,vI 0,vI 0,vI 0,vI 0,vI 0,vI 0,vI 0]⟩,.agg wKnown14],.agg ⟨[vI 0,vI 0,vI 0,vI 0,vI 0,vI 0]⟩⟩
theorem kKnown159:KKnown159.Ok Try.prog:=CF.of2 noNG mixed (l:=[KKnown153,KKnown154,KKnown27,KKnown156,KKnown158]) (.cons kKnown153 (.cons kKnown154 (.cons kKnown27 (.cons kKnown156 (.cons kKnown158 .nil))))) 3000 (by kernel_rfl)
def KKnown160:CF:=⟨69,[.agg wKnown5,.agg ⟨[vI 0,vI 0,vI 0,vI 10,vI 10,vI 0,vI 0,vI 0,vI 0,vI 0,vI 0,vI 0,vI 0]⟩,.agg wKnown14],.agg ⟨[vI 0,vI 0,vI 0,vI 0,vJ 97,vJ 97]⟩⟩
theorem kKnown160:KKnown160.Ok Try.prog:=CF.of2 noNG mixed (l:=[KKnown40,KKnown41,KKnown77,KKnown159]) (.cons kKnown40 (.cons kKnown41 (.cons kKnown77 (.cons kKnown159 .nil)))) 3000 (by kernel_rfl)
def KKnown161:CF:=⟨91,[.agg ⟨[vJ 1,vI 2,vI 0,vI 0,vI 1412,vI 1412]⟩,.func (.func 105) ⟨[]⟩ ⟨[]⟩,.agg ⟨[vI 0,vI 0,vI 0,vI 0,vJ 97,vJ 97]⟩],.agg ⟨[vJ 1,vI 2,vI 0,vI 0,vI 1314,vI 1314]⟩⟩
theorem kKnown161:KKnown161.Ok Try.prog:=CF.of2 noNG mixed (l:=[]) .nil 3000 (by kernel_rfl)
def KKnown162:CF:=⟨91,[.agg ⟨[vJ 10,vI 11,vI 0,vI 0,vI 8942,vI 8942]⟩,.func (.func 105) ⟨[]⟩ ⟨[]⟩,.agg ⟨[vJ 1,vI 2,vI 0,vI 0,vI 1314,vI 1314]⟩],.agg ⟨[vJ 12,vI 13,vI 0,vI 0,vI 10256,vI 10256]⟩⟩
theorem kKnown162:KKnown162.Ok Try.prog:=CF.of2 noNG mixed (l:=[]) .nil 3000 (by kernel_rfl)
def KKnown163:CF:=⟨119,[.agg wKnown14,.agg ⟨[vI 0,vI 0,vI 0,vI 0,vJ 97,vJ 97]⟩],.agg wKnown15⟩
theorem kKnown163:KKnown163.Ok Try.prog:=CF.of2 noNG mixed (l:=[KKnown161,KKnown162]) (.cons kKnown161 (.cons kKnown162 .nil)) 3000 (by kernel_rfl)
def KKnown164:CF:=⟨86,[.agg ⟨[vJ 12,vI 13,vI 0,vI 0,vI 10256,vI 10256]⟩,vI 2000000000],vT⟩
theorem kKnown164:KKnown164.Ok Try.prog:=CF.of2 noNG mixed (l:=[]) .nil 3000 (by kernel_rfl)
def KKnown165:CF:=⟨86,[.agg ⟨[vJ 1,vI 2,vI 0,vI 0,vI 1314,vI 1314]⟩,vI 1000000],vT⟩
theorem kKnown165:KKnown165.Ok Try.prog:=CF.of2 noNG mixed (l:=[]) .nil 3000 (by kernel_rfl)
def KKnown166:CF:=⟨68,[.agg wKnown15],vF⟩
theorem kKnown166:KKnown166.Ok Try.prog:=CF.of2 noNG mixed (l:=[KKnown164,KKnown165]) (.cons kKnown164 (.cons kKnown165 .nil)) 3000 (by kernel_rfl)
def KKnown168:CF:=⟨70,[lstV wKnown0 0 1 13,vI 7],.agg ⟨[vI 0,vI 0,vI 0,vI 10,vI 10,vI 0,vI 0,vI 0,vI 0,vI 0,vI 0,vI 0,vI 0]⟩⟩
theorem kKnown168:KKnown168.Ok Try.prog:=CF.of2 noNG mixed (l:=[]) .nil 3000 (by kernel_rfl)
def KKnown169:CF:=⟨55,[lstV wKnown2 0 2 7,.agg ⟨[vI 10256,vI 10256]⟩,.func (.func 57) ⟨[]⟩ ⟨[]⟩],.agg ⟨[vI 300,vI 300,vI 0,vI 0,vI 0,vI 0]⟩⟩
theorem kKnown169:KKnown169.Ok Try.prog:=CF.of2 noNG mixed (l:=[]) .nil 3000 (by kernel_rfl)
def KKnown170:CF:=⟨91,[.agg ⟨[vJ 1,vI 2,vI 0,vI 0,vI 1314,vI 1314]⟩,.func (.func 98) ⟨[]⟩ ⟨[]⟩,.agg ⟨[vI 300,vI 300,vI 0,vI 0,vI 0,vI 0]⟩],.agg ⟨[vJ 301,vJ 297,vI 0,vI 0,vI 1314,vI 1314]⟩⟩
theorem kKnown170:KKnown170.Ok Try.prog:=CF.of2 noNG mixed (l:=[]) .nil 3000 (by kernel_rfl)
def KKnown171:CF:=⟨125,[.agg ⟨[vI 1815400,vI 1817800]⟩],.agg ⟨[vI 1347,vI 1349]⟩⟩
theorem kKnown171:KKnown171.Ok Try.prog:=CF.of2 noNG mixed (l:=[]) .nil 3000 (by kernel_rfl)
def KKnown172:CF:=⟨116,[.agg ⟨[vJ 301,vJ 297,vI 0,vI 0,vI 1314,vI 1314]⟩],.agg ⟨[vI 1347,vI 1349]⟩⟩
theorem kKnown172:KKnown172.Ok Try.prog:=CF.of2 noNG mixed (l:=[KKnown171]) (.cons kKnown171 .nil) 3000 (by kernel_rfl)
def KKnown173:CF:=⟨91,[.agg ⟨[vJ 301,vJ 297,vI 0,vI 0,vI 1314,vI 1314]⟩,.func (.func 111) ⟨[]⟩ ⟨[]⟩,.agg ⟨[vI 0,vI 0,vI 0,vI 0,vI 0,vI 0]⟩],.agg ⟨[vI 0,vI 0,vI 0,vI 0,vI 0,vI 0]⟩⟩
theorem kKnown173:KKnown173.Ok Try.prog:=CF.of2 noNG mixed (l:=[]) .nil 3000 (by kernel_rfl)
def KKnown174:CF:=⟨112,[.agg ⟨[vJ 301,vJ 297,vI 0,vI 0,vI 1314,vI 1314]⟩,.func (.func 111) ⟨[]⟩ ⟨[]⟩,.agg ⟨[vI 0,vI 0]⟩],.agg ⟨[vI 0,vI 0,vI 0,vI 0,vI 0,vI 0]⟩⟩
theorem kKnown174:KKnown174.Ok Try.prog:=CF.of2 noNG mixed (l:=[KKnown173]) (.cons kKnown173 .nil) 3000 (by kernel_rfl)
def KKnown175:CF:=⟨99,[.agg wKnown5,.agg ⟨[vI 0,vI 0,vI 0,vI 10,vI 10,vI 0,vI 0,vI 0,vI 0,vI 0,vI 0,vI 0,vI 0]⟩,.agg wKnown15],.agg ⟨[vI 0,vI 0,vI 0,vI 0,vI 0,vI 0]⟩⟩
theorem kKnown175:KKnown175.Ok Try.prog:=CF.of2 noNG mixed (l:=[KKnown169,KKnown170,KKnown172,KKnown174,KKnown27]) (.cons kKnown169 (.cons kKnown170 (.cons kKnown172 (.cons kKnown174 (.cons kKnown27 .nil))))) 3000 (by kernel_rfl)
def KKnown176:CF:=⟨69,[.agg wKnown5,.agg ⟨[vI 0,vI 0,vI 0,vI 10,vI 10,vI 0,vI 0,vI 0,vI 0,vI 0,vI 0,vI 0,vI 0]⟩,.agg wKnown15],.agg ⟨[vI 0,vI 0,vI 0,vI 0,vJ 97,vJ 97]⟩⟩
theorem kKnown176:KKnown176.Ok Try.prog:=CF.of2 noNG mixed (l:=[KKnown40,KKnown41,KKnown77,KKnown175]) (.cons kKnown40 (.cons kKnown41 (.cons kKnown77 (.cons kKnown175 .nil)))) 3000 (by kernel_rfl)
def KKnown177:CF:=⟨91,[.agg ⟨[vJ 1,vI 2,vI 0,vI 0,vI 1314,vI 1314]⟩,.func (.func 105) ⟨[]⟩ ⟨[]⟩,.agg ⟨[vI 0,vI 0,vI 0,vI 0,vJ 97,vJ 97]⟩],.agg ⟨[vJ 1,vI 2,vI 0,vI 0,vI 1216,vI 1216]⟩⟩
theorem kKnown177:KKnown177.Ok Try.prog:=CF.of2 noNG mixed (l:=[]) .nil 3000 (by kernel_rfl)
def KKnown178:CF:=⟨91,[.agg ⟨[vJ 12,vI 13,vI 0,vI 0,vI 10256,vI 10256]⟩,.func (.func 105) ⟨[]⟩ ⟨[]⟩,.agg ⟨[vJ 1,vI 2,vI 0,vI 0,vI 1216,vI 1216]⟩],.agg ⟨[vJ 14,vI 15,vI 0,vI 0,vI 11472,vI 11472]⟩⟩
theorem kKnown178:KKnown178.Ok Try.prog:=CF.of2 noNG mixed (l:=[]) .nil 3000 (by kernel_rfl)
def KKnown179:CF:=⟨119,[.agg wKnown15,.agg ⟨[vI 0,vI 0,vI 0,vI 0,vJ 97,vJ 97]⟩],.agg wKnown16⟩
theorem kKnown179:KKnown179.Ok Try.prog:=CF.of2 noNG mixed (l:=[KKnown177,KKnown178]) (.cons kKnown177 (.cons kKnown178 .nil)) 3000 (by kernel_rfl)
def KKnown180:CF:=⟨86,[.agg ⟨[vJ 14,vI 15,vI 0,vI 0,vI 11472,vI 11472]⟩,vI 2000000000],vT⟩
theorem kKnown180:KKnown180.Ok Try.prog:=CF.of2 noNG mixed (l:=[]) .nil 3000 (by kernel_rfl)
def KKnown181:CF:=⟨86,[.agg ⟨[vJ 1,vI 2,vI 0,vI 0,vI 1216,vI 1216]⟩,vI 1000000],vT⟩
theorem kKnown181:KKnown181.Ok Try.prog:=CF.of2 noNG mixed (l:=[]) .nil 3000 (by kernel_rfl)
def KKnown182:CF:=⟨68,[.agg wKnown16],vF⟩
theorem kKnown182:KKnown182.Ok Try.prog:=CF.of2 noNG mixed (l:=[KKnown180,KKnown181]) (.cons kKnown180 (.cons kKnown181 .nil)) 3000 (by kernel_rfl)
def KKnown184:CF:=⟨70,[lstV wKnown0 0 1 13,vI 8],.agg ⟨[vI 0,vI 0,vI 0,vI 10,vI 10,vI 0,vI 0,vI 0,vI 0,vI 0,vI 0,vI 0,vI 0]⟩⟩
theorem kKnown184:KKnown184.Ok Try.prog:=CF.of2 noNG mixed (l:=[]) .nil 3000 (by kernel_rfl)
def KKnown185:CF:=⟨55,[lstV wKnown2 0 2 7,.agg ⟨[vI 11472,vI 11472]⟩,.func (.func 57) ⟨[]⟩ ⟨[]⟩],.agg ⟨[vI 300,vI 300,vI 0,vI 0,vI 0,vI 0]⟩⟩
theorem kKnown185:KKnown185.Ok Try.prog:=CF.of2 noNG mixed (l:=[]) .nil 3000 (by kernel_rfl)
def KKnown186:CF:=⟨91,[.agg ⟨[vJ 1,vI 2,vI 0,vI 0,vI 1216,vI 1216]⟩,.func (.func 98) ⟨[]⟩ ⟨[]⟩,.agg ⟨[vI 300,vI 300,vI 0,vI 0,vI 0,vI 0]⟩],.agg ⟨[vJ 301,vJ 297,vI 0,vI 0,vI 1216,vI 1216]⟩⟩
theorem kKnown186:KKnown186.Ok Try.prog:=CF.of2 noNG mixed (l:=[]) .nil 3000 (by kernel_rfl)
def KKnown187:CF:=⟨125,[.agg ⟨[vI 1567460,vI 1569860]⟩],.agg ⟨[vI 1251,vI 1253]⟩⟩
theorem kKnown187:KKnown187.Ok Try.prog:=CF.of2 noNG mixed (l:=[]) .nil 3000 (by kernel_rfl)
def KKnown188:CF:=⟨116,[.agg ⟨[vJ 301,vJ 297,vI 0,vI 0,vI 1216,vI 1216]⟩],.agg ⟨[vI 1251,vI 1253]⟩⟩
theorem kKnown188:KKnown188.Ok Try.prog:=CF.of2 noNG mixed (l:=[KKnown187]) (.cons kKnown187 .nil) 3000 (by kernel_rfl)
def KKnown189:CF:=⟨91,[.agg ⟨[vJ 301,vJ 297,vI 0,vI 0,vI 1216,vI 1216]⟩,.func (.func 111) ⟨[]⟩ ⟨[]⟩,.agg ⟨[vI 0,vI 0,vI 0,vI 0,vI 0,vI 0]⟩],.agg ⟨[vI 0,vI 0,vI 0,vI 0,vI 0,vI 0]⟩⟩
theorem kKnown189:KKnown189.Ok Try.prog:=CF.of2 noNG mixed (l:=[]) .nil 3000 (by kernel_rfl)
def KKnown190:CF:=⟨112,[.agg ⟨[vJ 301,vJ 297,vI 0,vI 0,vI 1216,vI 1216]⟩,.func (.func 111) ⟨[]⟩ ⟨[]⟩,.agg ⟨[vI 0,vI 0]⟩],.agg ⟨[vI 0,vI 0,vI 0,vI 0,vI 0,vI 0]⟩⟩
theorem kKnown190:KKnown190.Ok Try.prog:=CF.of2 noNG mixed (l:=[KKnown189]) (.cons kKnown189 .nil) 3000 (by kernel_rfl)
def KKnown191:CF:=⟨99,[.agg wKnown5,.agg ⟨[vI 0,vI 0,vI 0,vI 10,vI 10,vI 0,vI 0,vI 0,vI 0,vI 0,vI 0,vI 0,vI 0]⟩,.agg wKnown16],.agg ⟨[vI 0,vI 0,vI 0,vI 0,vI 0,vI 0]⟩⟩
theorem kKnown191:KKnown191.Ok Try.prog:=CF.of2 noNG mixed (l:=[KKnown185,KKnown186,KKnown27,KKnown188,KKnown190]) (.cons kKnown185 (.cons kKnown186 (.cons kKnown27 (.cons kKnown188 (.cons kKnown190 .nil))))) 3000 (by kernel_rfl)
def KKnown192:CF:=⟨69,[.agg wKnown5,.agg ⟨[vI 0,vI 0,vI 0,vI 10,vI 10,vI 0,vI 0,vI 0,vI 0,vI 0,vI 0,vI 0,vI 0]⟩,.agg wKnown16],.agg ⟨[vI 0,vI 0,vI 0,vI 0,vJ 97,vJ 97]⟩⟩
theorem kKnown192:KKnown192.Ok Try.prog:=CF.of2 noNG mixed (l:=[KKnown40,KKnown41,KKnown77,KKnown191]) (.cons kKnown40 (.cons kKnown41 (.cons kKnown77 (.cons kKnown191 .nil)))) 3000 (by kernel_rfl)
def KKnown193:CF:=⟨91,[.agg ⟨[vJ 1,vI 2,vI 0,vI 0,vI 1216,vI 1216]⟩,.func (.func 105) ⟨[]⟩ ⟨[]⟩,.agg ⟨[vI 0,vI 0,vI 0,vI 0,vJ 97,vJ 97]⟩],.agg ⟨[vJ 1,vI 2,vI 0,vI 0,vI 1118,vI 1118]⟩⟩
theorem kKnown193:KKnown193.Ok Try.prog:=CF.of2 noNG mixed (l:=[]) .nil 3000 (by kernel_rfl)
def KKnown194:CF:=⟨91,[.agg ⟨[vJ 14,vI 15,vI 0,vI 0,vI 11472,vI 11472]⟩,.func (.func 105) ⟨[]⟩ ⟨[]⟩,.agg ⟨[vJ 1,vI 2,vI 0,vI 0,vI 1118,vI 1118]⟩],.agg ⟨[vJ 16,vI 17,vI 0,vI 0,vI 12590,vI 12590]⟩⟩
theorem kKnown194:KKnown194.Ok Try.prog:=CF.of2 noNG mixed (l:=[]) .nil 3000 (by kernel_rfl)
def KKnown195:CF:=⟨119,[.agg wKnown16,.agg ⟨[vI 0,vI 0,vI 0,vI 0,vJ 97,vJ 97]⟩],.agg wKnown17⟩
theorem kKnown195:KKnown195.Ok Try.prog:=CF.of2 noNG mixed (l:=[KKnown193,KKnown194]) (.cons kKnown193 (.cons kKnown194 .nil)) 3000 (by kernel_rfl)
def KKnown196:CF:=⟨86,[.agg ⟨[vJ 16,vI 17,vI 0,vI 0,vI 12590,vI 12590]⟩,vI 2000000000],vT⟩
theorem kKnown196:KKnown196.Ok Try.prog:=CF.of2 noNG mixed (l:=[]) .nil 3000 (by kernel_rfl)
def KKnown197:CF:=⟨86,[.agg ⟨[vJ 1,vI 2,vI 0,vI 0,vI 1118,vI 1118]⟩,vI 1000000],vT⟩
theorem kKnown197:KKnown197.Ok Try.prog:=CF.of2 noNG mixed (l:=[]) .nil 3000 (by kernel_rfl)
def KKnown198:CF:=⟨68,[.agg wKnown17],vF⟩
theorem kKnown198:KKnown198.Ok Try.prog:=CF.of2 noNG mixed (l:=[KKnown196,KKnown197]) (.cons kKnown196 (.cons kKnown197 .nil)) 3000 (by kernel_rfl)
def KKnown200:CF:=⟨70,[lstV wKnown0 0 1 13,vI 9],.agg ⟨[vI 0,vI 0,vI 0,vI 10,vI 10,vI 0,vI 0,vI 0,vI 0,vI 0,vI 0,vI 0,vI 0]⟩⟩
theorem kKnown200:KKnown200.Ok Try.prog:=CF.of2 noNG mixed (l:=[]) .nil 3000 (by kernel_rfl)
def KKnown201:CF:=⟨55,[lstV wKnown2 0 2 7,.agg ⟨[vI 12590,vI 12590]⟩,.func (.func 57) ⟨[]⟩ ⟨[]⟩],.agg ⟨[vI 300,vI 300,vI 0,vI 0,vI 0,vI 0]⟩⟩
theorem kKnown201:KKnown201.Ok Try.prog:=CF.of2 noNG mixed (l:=[]) .nil 3000 (by kernel_rfl)
def KKnown202:CF:=⟨91,[.agg ⟨[vJ 1,vI 2,vI 0,vI 0,vI 1118,vI 1118]⟩,.func (.func 98) ⟨[]⟩ ⟨[]⟩,.agg ⟨[vI 300,vI 300,vI 0,vI 0,vI 0,vI 0]⟩],.agg ⟨[vJ 301,vJ 297,vI 0,vI 0,vI 1118,vI 1118]⟩⟩
theorem kKnown202:KKnown202.Ok Try.prog:=CF.of2 noNG mixed (l:=[]) .nil 3000 (by kernel_rfl)
def KKnown203:CF:=⟨125,[.agg ⟨[vI 1338728,vI 1341128]⟩],.agg ⟨[vI 1157,vI 1159]⟩⟩
theorem kKnown203:KKnown203.Ok Try.prog:=CF.of2 noNG mixed (l:=[]) .nil 3000 (by kernel_rfl)
def KKnown204:CF:=⟨116,[.agg ⟨[vJ 301,vJ 297,vI 0,vI 0,vI 1118,vI 1118]⟩],.agg ⟨[vI 1157,vI 1159]⟩⟩
theorem kKnown204:KKnown204.Ok Try.prog:=CF.of2 noNG mixed (l:=[KKnown203]) (.cons kKnown203 .nil) 3000 (by kernel_rfl)
def KKnown205:CF:=⟨91,[.agg ⟨[vJ 301,vJ 297,vI 0,vI 0,vI 1118,vI 1118]⟩,.func (.func 111) ⟨[]⟩ ⟨[]⟩,.agg ⟨[vI 0,vI 0,vI 0,vI 0,vI 0,vI 0]⟩],.agg ⟨[vI 0,vI 0,vI 0,vI 0,vI 0,vI 0]⟩⟩
theorem kKnown205:KKnown205.Ok Try.prog:=CF.of2 noNG mixed (l:=[]) .nil 3000 (by kernel_rfl)
def KKnown206:CF:=⟨112,[.agg ⟨[vJ 301,vJ 297,vI 0,vI 0,vI 1118,vI 1118]⟩,.func (.func 111) ⟨[]⟩ ⟨[]⟩,.agg ⟨[vI 0,vI 0]⟩],.agg ⟨[vI 0,vI 0,vI 0,vI 0,vI 0,vI 0]⟩⟩
theorem kKnown206:KKnown206.Ok Try.prog:=CF.of2 noNG mixed (l:=[KKnown205]) (.cons kKnown205 .nil) 3000 (by kernel_rfl)
def KKnown207:CF:=⟨99,[.agg wKnown5,.agg ⟨[vI 0,vI 0,vI 0,vI 10,vI 10,vI 0,vI 0,vI 0,vI 0,vI 0,vI 0,vI 0,vI 0]⟩,.agg wKnown17],.agg ⟨[vI 0,vI 0,vI 0,vI 0,vI 0,vI 0]⟩⟩
theorem kKnown207:KKnown207.Ok Try.prog:=CF.of2 noNG mixed (l:=[KKnown201,KKnown202,KKnown204,KKnown206,KKnown27]) (.cons kKnown201 (.cons kKnown202 (.cons kKnown204 (.cons kKnown206 (.cons kKnown27 .nil))))) 3000 (by kernel_rfl)
def KKnown208:CF:=⟨69,[.agg wKnown5,.agg ⟨[vI 0,vI 0,vI 0,vI 10,vI 10,vI 0,vI 0,vI 0,vI 0,vI 0,vI 0,vI 0,vI 0]⟩,.agg wKnown17],.agg ⟨[vI 0,vI 0,vI 0,vI 0,vJ 97,vJ 97]⟩⟩
theorem kKnown208:KKnown208.Ok Try.prog:=CF.of2 noNG mixed (l:=[KKnown40,KKnown41,KKnown77,KKnown207]) (.cons kKnown40 (.cons kKnown41 (.cons kKnown77 (.cons kKnown207 .nil)))) 3000 (by kernel_rfl)
def KKnown209:CF:=⟨91,[.agg ⟨[vJ 1,vI 2,vI 0,vI 0,vI 1118,vI 1118]⟩,.func (.func 105) ⟨[]⟩ ⟨[]⟩,.agg ⟨[vI 0,vI 0,vI 0,vI 0,vJ 97,vJ 97]⟩],.agg ⟨[vJ 1,vI 2,vI 0,vI 0,vI 1020,vI 1020]⟩⟩
theorem kKnown209:KKnown209.Ok Try.prog:=CF.of2 noNG mixed (l:=[]) .nil 3000 (by kernel_rfl)
def KKnown210:CF:=⟨91,[.agg ⟨[vJ 16,vI 17,vI 0,vI 0,vI 12590,vI 12590]⟩,.func (.func 105) ⟨[]⟩ ⟨[]⟩,.agg ⟨[vJ 1,vI 2,vI 0,vI 0,vI 1020,vI 1020]⟩],.agg ⟨[vJ 18,vI 19,vI 0,vI 0,vI 13610,vI 13610]⟩⟩
theorem kKnown210:KKnown210.Ok Try.prog:=CF.of2 noNG mixed (l:=[]) .nil 3000 (by kernel_rfl)
def KKnown211:CF:=⟨119,[.agg wKnown17,.agg ⟨[vI 0,vI 0,vI 0,vI 0,vJ 97,vJ 97]⟩],.agg wKnown18⟩
theorem kKnown211:KKnown211.Ok Try.prog:=CF.of2 noNG mixed (l:=[KKnown209,KKnown210]) (.cons kKnown209 (.cons kKnown210 .nil)) 3000 (by kernel_rfl)
def KKnown212:CF:=⟨86,[.agg ⟨[vJ 18,vI 19,vI 0,vI 0,vI 13610,vI 13610]⟩,vI 2000000000],vT⟩
theorem kKnown212:KKnown212.Ok Try.prog:=CF.of2 noNG mixed (l:=[]) .nil 3000 (by kernel_rfl)
def KKnown213:CF:=⟨86,[.agg ⟨[vJ 1,vI 2,vI 0,vI 0,vI 1020,vI 1020]⟩,vI 1000000],vT⟩
theorem kKnown213:KKnown213.Ok Try.prog:=CF.of2 noNG mixed (l:=[]) .nil 3000 (by kernel_rfl)
def KKnown214:CF:=⟨68,[.agg wKnown18],vF⟩
theorem kKnown214:KKnown214.Ok Try.prog:=CF.of2 noNG mixed (l:=[KKnown212,KKnown213]) (.cons kKnown212 (.cons kKnown213 .nil)) 3000 (by kernel_rfl)
def KKnown216:CF:=⟨70,[lstV wKnown0 0 1 13,vI 10],.agg ⟨[vI 0,vI 0,vI 0,vI 10,vI 10,vI 0,vI 0,vI 0,vI 0,vI 0,vI 0,vI 0,vI 0]⟩⟩
theorem kKnown216:KKnown216.Ok Try.prog:=CF.of2 noNG mixed (l:=[]) .nil 3000 (by kernel_rfl)
def KKnown217:CF:=⟨55,[lstV wKnown2 0 2 7,.agg ⟨[vI 13610,vI 13610]⟩,.func (.func 57) ⟨[]⟩ ⟨[]⟩],.agg ⟨[vI 300,vI 300,vI 0,vI 0,vI 0,vI 0]⟩⟩
theorem kKnown217:KKnown217.Ok Try.prog:=CF.of2 noNG mixed (l:=[]) .nil 3000 (by kernel_rfl)
def KKnown218:CF:=⟨91,[.agg ⟨[vJ 1,vI 2,vI 0,vI 0,vI 1020,vI 1020]⟩,.func (.func 98) ⟨[]⟩ ⟨[]⟩,.agg ⟨[vI 300,vI 300,vI 0,vI 0,vI 0,vI 0]⟩],.agg ⟨[vJ 301,vJ 297,vI 0,vI 0,vI 1020,vI 1020]⟩⟩
theorem kKnown218:KKnown218.Ok Try.prog:=CF.of2 noNG mixed (l:=[]) .nil 3000 (by kernel_rfl)
def KKnown219:CF:=⟨125,[.agg ⟨[vI 1129204,vI 1131604]⟩],.agg ⟨[vI 1062,vI 1064]⟩⟩
theorem kKnown219:KKnown219.Ok Try.prog:=CF.of2 noNG mixed (l:=[]) .nil 3000 (by kernel_rfl)
def KKnown220:CF:=⟨116,[.agg ⟨[vJ 301,vJ 297,vI 0,vI 0,vI 1020,vI 1020]⟩],.agg ⟨[vI 1062,vI 1064]⟩⟩
theorem kKnown220:KKnown220.Ok Try.prog:=CF.of2 noNG mixed (l:=[KKnown219]) (.cons kKnown219 .nil) 3000 (by kernel_rfl)
def KKnown221:CF:=⟨91,[.agg ⟨[vJ 301,vJ 297,vI 0,vI 0,vI 1020,vI 1020]⟩,.func (.func 111) ⟨[]⟩ ⟨[]⟩,.agg ⟨[vI 0,vI 0,vI 0,vI 0,vI 0,vI 0]⟩],.agg ⟨[vI 0,vI 0,vI 0,vI 0,vI 0,vI 0]⟩⟩
theorem kKnown221:KKnown221.Ok Try.prog:=CF.of2 noNG mixed (l:=[]) .nil 3000 (by kernel_rfl)
def KKnown222:CF:=⟨112,[.agg ⟨[vJ 301,vJ 297,vI 0,vI 0,vI 1020,vI 1020]⟩,.func (.func 111) ⟨[]⟩ ⟨[]⟩,.agg ⟨[vI 0,vI 0]⟩],.agg ⟨[vI 0,vI 0,vI 0,vI 0,vI 0,vI 0]⟩⟩
theorem kKnown222:KKnown222.Ok Try.prog:=CF.of2 noNG mixed (l:=[KKnown221]) (.cons kKnown221 .nil) 3000 (by kernel_rfl)
def KKnown223:CF:=⟨99,[.agg wKnown5,.agg ⟨[vI 0,vI 0,vI 0,vI 10,vI 10,vI 0,vI 0,vI 0,vI 0,vI 0,vI 0,vI 0,vI 0]⟩,.agg wKnown18],.agg ⟨[vI 0,vI 0,vI 0,vI 0,vI 0,vI 0]⟩⟩
theorem kKnown223:KKnown223.Ok Try.prog:=CF.of2 noNG mixed (l:=[KKnown217,KKnown218,KKnown27,KKnown220,KKnown222]) (.cons kKnown217 (.cons kKnown218 (.cons kKnown27 (.cons kKnown220 (.cons kKnown222 .nil))))) 3000 (by kernel_rfl)
def KKnown224:CF:=⟨69,[.agg wKnown5,.agg ⟨[vI 0,vI 0,vI 0,vI 10,vI 10,vI 0,vI 0,vI 0,vI 0,vI 0,vI 0,vI 0,vI 0]⟩,.agg wKnown18],.agg ⟨[vI 0,vI 0,vI 0,vI 0,vJ 97,vJ 97]⟩⟩
theorem kKnown224:KKnown224.Ok Try.prog:=CF.of2 noNG mixed (l:=[KKnown40,KKnown41,KKnown77,KKnown223]) (.cons kKnown40 (.cons kKnown41 (.cons kKnown77 (.cons kKnown223 .nil)))) 3000 (by kernel_rfl)
def KKnown225:CF:=⟨91,[.agg ⟨[vJ 1,vI 2,vI 0,vI 0,vI 1020,vI 1020]⟩,.func (.func 105) ⟨[]⟩ ⟨[]⟩,.agg ⟨[vI 0,vI 0,vI 0,vI 0,vJ 97,vJ 97]⟩],.agg ⟨[vJ 1,vI 2,vI 0,vI 0,vI 922,vI 922]⟩⟩
theorem kKnown225:KKnown225.Ok Try.prog:=CF.of2 noNG mixed (l:=[]) .nil 3000 (by kernel_rfl)
def KKnown226:CF:=⟨91,[.agg ⟨[vJ 18,vI 19,vI 0,vI 0,vI 13610,vI 13610]⟩,.func (.func 105) ⟨[]⟩ ⟨[]⟩,.agg ⟨[vJ 1,vI 2,vI 0,vI 0,vI 922,vI 922]⟩],.agg ⟨[vJ 20,vI 21,vI 0,vI 0,vI 14532,vI 14532]⟩⟩
theorem kKnown226:KKnown226.Ok Try.prog:=CF.of2 noNG mixed (l:=[]) .nil 3000 (by kernel_rfl)
def KKnown227:CF:=⟨119,[.agg wKnown18,.agg ⟨[vI 0,vI 0,vI 0,vI 0,vJ 97,vJ 97]⟩],.agg wKnown19⟩
theorem kKnown227:KKnown227.Ok Try.prog:=CF.of2 noNG mixed (l:=[KKnown225,KKnown226]) (.cons kKnown225 (.cons kKnown226 .nil)) 3000 (by kernel_rfl)
def KKnown228:CF:=⟨86,[.agg ⟨[vJ 20,vI 21,vI 0,vI 0,vI 14532,vI 14532]⟩,vI 2000000000],vT⟩
theorem kKnown228:KKnown228.Ok Try.prog:=CF.of2 noNG mixed (l:=[]) .nil 3000 (by kernel_rfl)
def KKnown229:CF:=⟨86,[.agg ⟨[vJ 1,vI 2,vI 0,vI 0,vI 922,vI 922]⟩,vI 1000000],vT⟩
theorem kKnown229:KKnown229.Ok Try.prog:=CF.of2 noNG mixed (l:=[]) .nil 3000 (by kernel_rfl)
def KKnown230:CF:=⟨68,[.agg wKnown19],vF⟩
theorem kKnown230:KKnown230.Ok Try.prog:=CF.of2 noNG mixed (l:=[KKnown228,KKnown229]) (.cons kKnown228 (.cons kKnown229 .nil)) 3000 (by kernel_rfl)
def KKnown232:CF:=⟨70,[lstV wKnown0 0 1 13,vI 11],.agg ⟨[vI 0,vI 0,vI 0,vI 10,vI 10,vI 0,vI 0,vI 0,vI 0,vI 0,vI 0,vI 0,vI 0]⟩⟩
theorem kKnown232:KKnown232.Ok Try.prog:=CF.of2 noNG mixed (l:=[]) .nil 3000 (by kernel_rfl)
def KKnown233:CF:=⟨55,[lstV wKnown2 0 2 7,.agg ⟨[vI 14532,vI 14532]⟩,.func (.func 57) ⟨[]⟩ ⟨[]⟩],.agg ⟨[vI 300,vI 300,vI 0,vI 0,vI 0,vI 0]⟩⟩
theorem kKnown233:KKnown233.Ok Try.prog:=CF.of2 noNG mixed (l:=[]) .nil 3000 (by kernel_rfl)
def KKnown234:CF:=⟨91,[.agg ⟨[vJ 1,vI 2,vI 0,vI 0,vI 922,vI 922]⟩,.func (.func 98) ⟨[]⟩ ⟨[]⟩,.agg ⟨[vI 300,vI 300,vI 0,vI 0,vI 0,vI 0]⟩],.agg ⟨[vJ 301,vJ 297,vI 0,vI 0,vI 922,vI 922]⟩⟩
theorem kKnown234:KKnown234.Ok Try.prog:=CF.of2 noNG mixed (l:=[]) .nil 3000 (by kernel_rfl)
def KKnown235:CF:=⟨125,[.agg ⟨[vI 938888,vI 941288]⟩],.agg ⟨[vI 968,vI 971]⟩⟩
theorem kKnown235:KKnown235.Ok Try.prog:=CF.of2 noNG mixed (l:=[]) .nil 3000 (by kernel_rfl)
def KKnown236:CF:=⟨116,[.agg ⟨[vJ 301,vJ 297,vI 0,vI 0,vI 922,vI 922]⟩],.agg ⟨[vI 968,vI 971]⟩⟩
theorem kKnown236:KKnown236.Ok Try.prog:=CF.of2 noNG mixed (l:=[KKnown235]) (.cons kKnown235 .nil) 3000 (by kernel_rfl)
def KKnown237:CF:=⟨91,[.agg ⟨[vJ 301,vJ 297,vI 0,vI 0,vI 922,vI 922]⟩,.func (.func 111) ⟨[]⟩ ⟨[]⟩,.agg ⟨[vI 0,vI 0,vI 0,vI 0,vI 0,vI 0]⟩],.agg ⟨[vI 0,vI 0,vI 0,vI 0,vI 0,vI 0]⟩⟩
theorem kKnown237:KKnown237.Ok Try.prog:=CF.of2 noNG mixed (l:=[]) .nil 3000 (by kernel_rfl)
def KKnown238:CF:=⟨112,[.agg ⟨[vJ 301,vJ 297,vI 0,vI 0,vI 922,vI 922]⟩,.func (.func 111) ⟨[]⟩ ⟨[]⟩,.agg ⟨[vI 0,vI 0]⟩],.agg ⟨[vI 0,vI 0,vI 0,vI 0,vI 0,vI 0]⟩⟩
theorem kKnown238:KKnown238.Ok Try.prog:=CF.of2 noNG mixed (l:=[KKnown237]) (.cons kKnown237 .nil) 3000 (by kernel_rfl)
def KKnown239:CF:=⟨99,[.agg wKnown5,.agg ⟨[vI 0,vI 0,vI 0,vI 10,vI 10,vI 0,vI 0,vI 0,vI 0,vI 0,vI 0,vI 0,vI 0]⟩,.agg wKnown19],.agg ⟨[vI 0,vI 0,vI 0,vI 0,vI 0,vI 0]⟩⟩
theorem kKnown239:KKnown239.Ok Try.prog:=CF.of2 noNG mixed (l:=[KKnown233,KKnown234,KKnown236,KKnown238,KKnown27]) (.cons kKnown233 (.cons kKnown234 (.cons kKnown236 (.cons kKnown238 (.cons kKnown27 .nil))))) 3000 (by kernel_rfl)
def KKnown240:CF:=⟨69,[.agg wKnown5,.agg ⟨[vI 0,vI 0,vI 0,vI 10,vI 10,vI 0,vI 0,vI 0,vI 0,vI 0,vI 0,vI 0,vI 0]⟩,.agg wKnown19],.agg ⟨[vI 0,vI 0,vI 0,vI 0,vJ 97,vJ 97]⟩⟩
theorem kKnown240:KKnown240.Ok Try.prog:=CF.of2 noNG mixed (l:=[KKnown40,KKnown41,KKnown77,KKnown239]) (.cons kKnown40 (.cons kKnown41 (.cons kKnown77 (.cons kKnown239 .nil)))) 3000 (by kernel_rfl)
def KKnown241:CF:=⟨91,[.agg ⟨[vJ 1,vI 2,vI 0,vI 0,vI 922,vI 922]⟩,.func (.func 105) ⟨[]⟩ ⟨[]⟩,.agg ⟨[vI 0,vI 0,vI 0,vI 0,vJ 97,vJ 97]⟩],.agg ⟨[vJ 1,vI 2,vI 0,vI 0,vI 824,vI 824]⟩⟩
theorem kKnown241:KKnown241.Ok Try.prog:=CF.of2 noNG mixed (l:=[]) .nil 3000 (by kernel_rfl)
def KKnown242:CF:=⟨91,[.agg ⟨[vJ 20,vI 21,vI 0,vI 0,vI 14532,vI 14532]⟩,.func (.func 105) ⟨[]⟩ ⟨[]⟩,.agg ⟨[vJ 1,vI 2,vI 0,vI 0,vI 824,vI 824]⟩],.agg ⟨[vJ 22,vI 23,vI 0,vI 0,vI 15356,vI 15356]⟩⟩
theorem kKnown242:KKnown242.Ok Try.prog:=CF.of2 noNG mixed (l:=[]) .nil 3000 (by kernel_rfl)
def KKnown243:CF:=⟨119,[.agg wKnown19,.agg ⟨[vI 0,vI 0,vI 0,vI 0,vJ 97,vJ 97]⟩],.agg wKnown20⟩
theorem kKnown243:KKnown243.Ok Try.prog:=CF.of2 noNG mixed (l:=[KKnown241,KKnown242]) (.cons kKnown241 (.cons kKnown242 .nil)) 3000 (by kernel_rfl)
def KKnown244:CF:=⟨86,[.agg ⟨[vJ 22,vI 23,vI 0,vI 0,vI 15356,vI 15356]⟩,vI 2000000000],vT⟩
theorem kKnown244:KKnown244.Ok Try.prog:=CF.of2 noNG mixed (l:=[]) .nil 3000 (by kernel_rfl)
def KKnown245:CF:=⟨86,[.agg ⟨[vJ 1,vI 2,vI 0,vI 0,vI 824,vI 824]⟩,vI 1000000],vT⟩
theorem kKnown245:KKnown245.Ok Try.prog:=CF.of2 noNG mixed (l:=[]) .nil 3000 (by kernel_rfl)
def KKnown246:CF:=⟨68,[.agg wKnown20],vF⟩
theorem kKnown246:KKnown246.Ok Try.prog:=CF.of2 noNG mixed (l:=[KKnown244,KKnown245]) (.cons kKnown244 (.cons kKnown245 .nil)) 3000 (by kernel_rfl)
def KKnown248:CF:=⟨70,[lstV wKnown0 0 1 13,vI 12],.agg ⟨[vI 0,vI 0,vI 0,vI 10,vI 10,vI 0,vI 0,vI 0,vI 0,vI 0,vI 0,vI 0,vI 0]⟩⟩
theorem kKnown248:KKnown248.Ok Try.prog:=CF.of2 noNG mixed (l:=[]) .nil 3000 (by kernel_rfl)
def KKnown249:CF:=⟨55,[lstV wKnown2 0 2 7,.agg ⟨[vI 15356,vI 15356]⟩,.func (.func 57) ⟨[]⟩ ⟨[]⟩],.agg ⟨[vI 300,vI 300,vI 0,vI 0,vI 0,vI 0]⟩⟩
theorem kKnown249:KKnown249.Ok Try.prog:=CF.of2 noNG mixed (l:=[]) .nil 3000 (by kernel_rfl)
def KKnown250:CF:=⟨91,[.agg ⟨[vJ 1,vI 2,vI 0,vI 0,vI 824,vI 824]⟩,.func (.func 98) ⟨[]⟩ ⟨[]⟩,.agg ⟨[vI 300,vI 300,vI 0,vI 0,vI 0,vI 0]⟩],.agg ⟨[vJ 301,vJ 297,vI 0,vI 0,vI 824,vI 824]⟩⟩
theorem kKnown250:KKnown250.Ok Try.prog:=CF.of2 noNG mixed (l:=[]) .nil 3000 (by kernel_rfl)
def KKnown251:CF:=⟨125,[.agg ⟨[vI 767780,vI 770180]⟩],.agg ⟨[vI 876,vI 878]⟩⟩
theorem kKnown251:KKnown251.Ok Try.prog:=CF.of2 noNG mixed (l:=[]) .nil 3000 (by kernel_rfl)
def KKnown252:CF:=⟨116,[.agg ⟨[vJ 301,vJ 297,vI 0,vI 0,vI 824,vI 824]⟩],.agg ⟨[vI 876,vI 878]⟩⟩
theorem kKnown252:KKnown252.Ok Try.prog:=CF.of2 noNG mixed (l:=[KKnown251]) (.cons kKnown251 .nil) 3000 (by kernel_rfl)
def KKnown253:CF:=⟨91,[.agg ⟨[vJ 301,vJ 297,vI 0,vI 0,vI 824,vI 824]⟩,.func (.func 111) ⟨[]⟩ ⟨[]⟩,.agg ⟨[vI 0,vI 0,vI 0,vI 0,vI 0,vI 0]⟩],.agg ⟨[vI 0,vI 0,vI 0,vI 0,vI 0,vI 0]⟩⟩
theorem kKnown253:KKnown253.Ok Try.prog:=CF.of2 noNG mixed (l:=[]) .nil 3000 (by kernel_rfl)
def KKnown254:CF:=⟨112,[.agg ⟨[vJ 301,vJ 297,vI 0,vI 0,vI 824,vI 824]⟩,.func (.func 111) ⟨[]⟩ ⟨[]⟩,.agg ⟨[vI 0,vI 0]⟩],.agg ⟨[vI 0,vI 0,vI 0,vI 0,vI 0,vI 0]⟩⟩
theorem kKnown254:KKnown254.Ok Try.prog:=CF.of2 noNG mixed (l:=[KKnown253]) (.cons kKnown253 .nil) 3000 (by kernel_rfl)
def KKnown255:CF:=⟨99,[.agg wKnown5,.agg ⟨[vI 0,vI 0,vI 0,vI 10,vI 10,vI 0,vI 0,vI 0,vI 0,vI 0,vI 0,vI 0,vI 0]⟩,.agg wKnown20],.agg ⟨[vI 0,vI 0,vI 0,vI 0,vI 0,vI 0]⟩⟩
theorem kKnown255:KKnown255.Ok Try.prog:=CF.of2 noNG mixed (l:=[KKnown249,KKnown250,KKnown27,KKnown252,KKnown254]) (.cons kKnown249 (.cons kKnown250 (.cons kKnown27 (.cons kKnown252 (.cons kKnown254 .nil))))) 3000 (by kernel_rfl)
def KKnown256:CF:=⟨69,[.agg wKnown5,.agg ⟨[vI 0,vI 0,vI 0,vI 10,vI 10,vI 0,vI 0,vI 0,vI 0,vI 0,vI 0,vI 0,vI 0]⟩,.agg wKnown20],.agg ⟨[vI 0,vI 0,vI 0,vI 0,vJ 97,vJ 97]⟩⟩
theorem kKnown256:KKnown256.Ok Try.prog:=CF.of2 noNG mixed (l:=[KKnown40,KKnown41,KKnown77,KKnown255]) (.cons kKnown40 (.cons kKnown41 (.cons kKnown77 (.cons kKnown255 .nil)))) 3000 (by kernel_rfl)
def KKnown257:CF:=⟨91,[.agg ⟨[vJ 1,vI 2,vI 0,vI 0,vI 824,vI 824]⟩,.func (.func 105) ⟨[]⟩ ⟨[]⟩,.agg ⟨[vI 0,vI 0,vI 0,vI 0,vJ 97,vJ 97]⟩],.agg ⟨[vJ 1,vI 2,vI 0,vI 0,vI 726,vI 726]⟩⟩
theorem kKnown257:KKnown257.Ok Try.prog:=CF.of2 noNG mixed (l:=[]) .nil 3000 (by kernel_rfl)
def KKnown258:CF:=⟨91,[.agg ⟨[vJ 22,vI 23,vI 0,vI 0,vI 15356,vI 15356]⟩,.func (.func 105) ⟨[]⟩ ⟨[]⟩,.agg ⟨[vJ 1,vI 2,vI 0,vI 0,vI 726,vI 726]⟩],.agg ⟨[vJ 24,vI 25,vI 0,vI 0,vI 16082,vI 16082]⟩⟩
theorem kKnown258:KKnown258.Ok Try.prog:=CF.of2 noNG mixed (l:=[]) .nil 3000 (by kernel_rfl)
def KKnown259:CF:=⟨119,[.agg wKnown20,.agg ⟨[vI 0,vI 0,vI 0,vI 0,vJ 97,vJ 97]⟩],.agg wKnown21⟩
theorem kKnown259:KKnown259.Ok Try.prog:=CF.of2 noNG mixed (l:=[KKnown257,KKnown258]) (.cons kKnown257 (.cons kKnown258 .nil)) 3000 (by kernel_rfl)
def KKnown260:CF:=⟨86,[.agg ⟨[vJ 24,vI 25,vI 0,vI 0,vI 16082,vI 16082]⟩,vI 2000000000],vT⟩
theorem kKnown260:KKnown260.Ok Try.prog:=CF.of2 noNG mixed (l:=[]) .nil 3000 (by kernel_rfl)
def KKnown261:CF:=⟨86,[.agg ⟨[vJ 1,vI 2,vI 0,vI 0,vI 726,vI 726]⟩,vI 1000000],vT⟩
theorem kKnown261:KKnown261.Ok Try.prog:=CF.of2 noNG mixed (l:=[]) .nil 3000 (by kernel_rfl)
def KKnown262:CF:=⟨68,[.agg wKnown21],vF⟩
theorem kKnown262:KKnown262.Ok Try.prog:=CF.of2 noNG mixed (l:=[KKnown260,KKnown261]) (.cons kKnown260 (.cons kKnown261 .nil)) 3000 (by kernel_rfl)
def KKnown264:CF:=⟨70,[lstV wKnown0 0 1 13,vI 13],.agg ⟨[vI 0,vI 0,vI 0,vI 10,vI 10,vI 0,vI 0,vI 0,vI 0,vI 0,vI 0,vI 0,vI 0]⟩⟩
theorem kKnown264:KKnown264.Ok Try.prog:=CF.of2 noNG mixed (l:=[]) .nil 3000 (by kernel_rfl)
def KKnown265:CF:=⟨55,[lstV wKnown2 0 2 7,.agg ⟨[vI 16082,vI 16082]⟩,.func (.func 57) ⟨[]⟩ ⟨[]⟩],.agg ⟨[vI 300,vI 300,vI 0,vI 0,vI 0,vI 0]⟩⟩
theorem kKnown265:KKnown265.Ok Try.prog:=CF.of2 noNG mixed (l:=[]) .nil 3000 (by kernel_rfl)
def KKnown266:CF:=⟨91,[.agg ⟨[vJ 1,vI 2,vI 0,vI 0,vI 726,vI 726]⟩,.func (.func 98) ⟨[]⟩ ⟨[]⟩,.agg ⟨[vI 300,vI 300,vI 0,vI 0,vI 0,vI 0]⟩],.agg ⟨[vJ 301,vJ 297,vI 0,vI 0,vI 726,vI 726]⟩⟩
theorem kKnown266:KKnown266.Ok Try.prog:=CF.of2 noNG mixed (l:=[]) .nil 3000 (by kernel_rfl)
def KKnown267:CF:=⟨125,[.agg ⟨[vI 615880,vI 618280]⟩],.agg ⟨[vI 784,vI 787]⟩⟩
theorem kKnown267:KKnown267.Ok Try.prog:=CF.of2 noNG mixed (l:=[]) .nil 3000 (by kernel_rfl)
def KKnown268:CF:=⟨116,[.agg ⟨[vJ 301,vJ 297,vI 0,vI 0,vI 726,vI 726]⟩],.agg ⟨[vI 784,vI 787]⟩⟩
theorem kKnown268:KKnown268.Ok Try.prog:=CF.of2 noNG mixed (l:=[KKnown267]) (.cons kKnown267 .nil) 3000 (by kernel_rfl)
def KKnown269:CF:=⟨91,[.agg ⟨[vJ 301,vJ 297,vI 0,vI 0,vI 726,vI 726]⟩,.func (.func 111) ⟨[]⟩ ⟨[]⟩,.agg ⟨[vI 0,vI 0,vI 0,vI 0,vI 0,vI 0]⟩],.agg ⟨[vI 0,vI 0,vI 0,vI 0,vI 0,vI 0]⟩⟩
theorem kKnown269:KKnown269.Ok Try.prog:=CF.of2 noNG mixed (l:=[]) .nil 3000 (by kernel_rfl)
def KKnown270:CF:=⟨112,[.agg ⟨[vJ 301,vJ 297,vI 0,vI 0,vI 726,vI 726]⟩,.func (.func 111) ⟨[]⟩ ⟨[]⟩,.agg ⟨[vI 0,vI 0]⟩],.agg ⟨[vI 0,vI 0,vI 0,vI 0,vI 0,vI 0]⟩⟩
theorem kKnown270:KKnown270.Ok Try.prog:=CF.of2 noNG mixed (l:=[KKnown269]) (.cons kKnown269 .nil) 3000 (by kernel_rfl)
def KKnown271:CF:=⟨99,[.agg wKnown5,.agg ⟨[vI 0,vI 0,vI 0,vI 10,vI 10,vI 0,vI 0,vI 0,vI 0,vI 0,vI 0,vI 0,vI 0]⟩,.agg wKnown21],.agg ⟨[vI 0,vI 0,vI 0,vI 0,vI 0,vI 0]⟩⟩
theorem kKnown271:KKnown271.Ok Try.prog:=CF.of2 noNG mixed (l:=[KKnown265,KKnown266,KKnown268,KKnown270,KKnown27]) (.cons kKnown265 (.cons kKnown266 (.cons kKnown268 (.cons kKnown270 (.cons kKnown27 .nil))))) 3000 (by kernel_rfl)
def KKnown272:CF:=⟨69,[.agg wKnown5,.agg ⟨[vI 0,vI 0,vI 0,vI 10,vI 10,vI 0,vI 0,vI 0,vI 0,vI 0,vI 0,vI 0,vI 0]⟩,.agg wKnown21],.agg ⟨[vI 0,vI 0,vI 0,vI 0,vJ 97,vJ 97]⟩⟩
theorem kKnown272:KKnown272.Ok Try.prog:=CF.of2 noNG mixed (l:=[KKnown40,KKnown41,KKnown77,KKnown271]) (.cons kKnown40 (.cons kKnown41 (.cons kKnown77 (.cons kKnown271 .nil)))) 3000 (by kernel_rfl)
def KKnown273:CF:=⟨91,[.agg ⟨[vJ 1,vI 2,vI 0,vI 0,vI 726,vI 726]⟩,.func (.func 105) ⟨[]⟩ ⟨[]⟩,.agg ⟨[vI 0,vI 0,vI 0,vI 0,vJ 97,vJ 97]⟩],.agg ⟨[vJ 1,vI 2,vI 0,vI 0,vI 628,vI 628]⟩⟩
theorem kKnown273:KKnown273.Ok Try.prog:=CF.of2 noNG mixed (l:=[]) .nil 3000 (by kernel_rfl)
def KKnown274:CF:=⟨91,[.agg ⟨[vJ 24,vI 25,vI 0,vI 0,vI 16082,vI 16082]⟩,.func (.func 105) ⟨[]⟩ ⟨[]⟩,.agg ⟨[vJ 1,vI 2,vI 0,vI 0,vI 628,vI 628]⟩],.agg ⟨[vJ 26,vI 27,vI 0,vI 0,vI 16710,vI 16710]⟩⟩
theorem kKnown274:KKnown274.Ok Try.prog:=CF.of2 noNG mixed (l:=[]) .nil 3000 (by kernel_rfl)
def KKnown275:CF:=⟨119,[.agg wKnown21,.agg ⟨[vI 0,vI 0,vI 0,vI 0,vJ 97,vJ 97]⟩],.agg wKnown22⟩
theorem kKnown275:KKnown275.Ok Try.prog:=CF.of2 noNG mixed (l:=[KKnown273,KKnown274]) (.cons kKnown273 (.cons kKnown274 .nil)) 3000 (by kernel_rfl)
def KKnown276:CF:=⟨86,[.agg ⟨[vJ 26,vI 27,vI 0,vI 0,vI 16710,vI 16710]⟩,vI 2000000000],vT⟩
theorem kKnown276:KKnown276.Ok Try.prog:=CF.of2 noNG mixed (l:=[]) .nil 3000 (by kernel_rfl)
def KKnown277:CF:=⟨86,[.agg ⟨[vJ 1,vI 2,vI 0,vI 0,vI 628,vI 628]⟩,vI 1000000],vT⟩
theorem kKnown277:KKnown277.Ok Try.prog:=CF.of2 noNG mixed (l:=[]) .nil 3000 (by kernel_rfl)
def KKnown278:CF:=⟨68,[.agg wKnown22],vF⟩
theorem kKnown278:KKnown278.Ok Try.prog:=CF.of2 noNG mixed (l:=[KKnown276,KKnown277]) (.cons kKnown276 (.cons kKnown277 .nil)) 3000 (by kernel_rfl)
def KKnown280:CF:=⟨70,[lstV wKnown0 0 1 13,vI 14],.agg ⟨[vI 0,vI 0,vI 0,vI 10,vI 10,vI 0,vI 0,vI 0,vI 0,vI 0,vI 0,vI 0,vI 0]⟩⟩
theorem kKnown280:KKnown280.Ok Try.prog:=CF.of2 noNG mixed (l:=[]) .nil 3000 (by kernel_rfl)
def KKnown281:CF:=⟨55,[lstV wKnown2 0 2 7,.agg ⟨[vI 16710,vI 16710]⟩,.func (.func 57) ⟨[]⟩ ⟨[]⟩],.agg ⟨[vI 300,vI 300,vI 0,vI 0,vI 0,vI 0]⟩⟩
theorem kKnown281:KKnown281.Ok Try.prog:=CF.of2 noNG mixed (l:=[]) .nil 3000 (by kernel_rfl)
def KKnown282:CF:=⟨91,[.agg ⟨[vJ 1,vI 2,vI 0,vI 0,vI 628,vI 628]⟩,.func (.func 98) ⟨[]⟩ ⟨[]⟩,.agg ⟨[vI 300,vI 300,vI 0,vI 0,vI 0,vI 0]⟩],.agg ⟨[vJ 301,vJ 297,vI 0,vI 0,vI 628,vI 628]⟩⟩
theorem kKnown282:KKnown282.Ok Try.prog:=CF.of2 noNG mixed (l:=[]) .nil 3000 (by kernel_rfl)
def KKnown283:CF:=⟨125,[.agg ⟨[vI 483188,vI 485588]⟩],.agg ⟨[vI 695,vI 697]⟩⟩
theorem kKnown283:KKnown283.Ok Try.prog:=CF.of2 noNG mixed (l:=[]) .nil 3000 (by kernel_rfl)
def KKnown284:CF:=⟨116,[.agg ⟨[vJ 301,vJ 297,vI 0,vI 0,vI 628,vI 628]⟩],.agg ⟨[vI 695,vI 697]⟩⟩
theorem kKnown284:KKnown284.Ok Try.prog:=CF.of2 noNG mixed (l:=[KKnown283]) (.cons kKnown283 .nil) 3000 (by kernel_rfl)
def KKnown285:CF:=⟨91,[.agg ⟨[vJ 301,vJ 297,vI 0,vI 0,vI 628,vI 628]⟩,.func (.func 111) ⟨[]⟩ ⟨[]⟩,.agg ⟨[vI 0,vI 0,vI 0,vI 0,vI 0,vI 0]⟩],.agg ⟨[vI 0,vI 0,vI 0,vI 0,vI 0,vI 0]⟩⟩
theorem kKnown285:KKnown285.Ok Try.prog:=CF.of2 noNG mixed (l:=[]) .nil 3000 (by kernel_rfl)
def KKnown286:CF:=⟨112,[.agg ⟨[vJ 301,vJ 297,vI 0,vI 0,vI 628,vI 628]⟩,.func (.func 111) ⟨[]⟩ ⟨[]⟩,.agg ⟨[vI 0,vI 0]⟩],.agg ⟨[vI 0,vI 0,vI 0,vI 0,vI 0,vI 0]⟩⟩
theorem kKnown286:KKnown286.Ok Try.prog:=CF.of2 noNG mixed (l:=[KKnown285]) (.cons kKnown285 .nil) 3000 (by kernel_rfl)
def KKnown287:CF:=⟨99,[.agg wKnown5,.agg ⟨[vI 0,vI 0,vI 0,vI 10,vI 10,vI 0,vI 0,vI 0,vI 0,vI 0,vI 0,vI 0,vI 0]⟩,.agg wKnown22],.agg ⟨[vI 0,vI 0,vI 0,vI 0,vI 0,vI 0]⟩⟩
theorem kKnown287:KKnown287.Ok Try.prog:=CF.of2 noNG mixed (l:=[KKnown281,KKnown282,KKnown27,KKnown284,KKnown286]) (.cons kKnown281 (.cons kKnown282 (.cons kKnown27 (.cons kKnown284 (.cons kKnown286 .nil))))) 3000 (by kernel_rfl)
def KKnown288:CF:=⟨69,[.agg wKnown5,.agg ⟨[vI 0,vI 0,vI 0,vI 10,vI 10,vI 0,vI 0,vI 0,vI 0,vI 0,vI 0,vI 0,vI 0]⟩,.agg wKnown22],.agg ⟨[vI 0,vI 0,vI 0,vI 0,vJ 97,vJ 97]⟩⟩
theorem kKnown288:KKnown288.Ok Try.prog:=CF.of2 noNG mixed (l:=[KKnown40,KKnown41,KKnown77,KKnown287]) (.cons kKnown40 (.cons kKnown41 (.cons kKnown77 (.cons kKnown287 .nil)))) 3000 (by kernel_rfl)
def KKnown289:CF:=⟨91,[.agg ⟨[vJ 1,vI 2,vI 0,vI 0,vI 628,vI 628]⟩,.func (.func 105) ⟨[]⟩ ⟨[]⟩,.agg ⟨[vI 0,vI 0,vI 0,vI 0,vJ 97,vJ 97]⟩],.agg ⟨[vJ 1,vI 2,vI 0,vI 0,vI 530,vI 530]⟩⟩
theorem kKnown289:KKnown289.Ok Try.prog:=CF.of2 noNG mixed (l:=[]) .nil 3000 (by kernel_rfl)
def KKnown290:CF:=⟨91,[.agg ⟨[vJ 26,vI 27,vI 0,vI 0,vI 16710,vI 16710]⟩,.func (.func 105) ⟨[]⟩ ⟨[]⟩,.agg ⟨[vJ 1,vI 2,vI 0,vI 0,vI 530,vI 530]⟩],.agg ⟨[vJ 28,vI 29,vI 0,vI 0,vI 17240,vI 17240]⟩⟩
theorem kKnown290:KKnown290.Ok Try.prog:=CF.of2 noNG mixed (l:=[]) .nil 3000 (by kernel_rfl)
def KKnown291:CF:=⟨119,[.agg wKnown22,.agg ⟨[vI 0,vI 0,vI 0,vI 0,vJ 97,vJ 97]⟩],.agg wKnown23⟩
theorem kKnown291:KKnown291.Ok Try.prog:=CF.of2 noNG mixed (l:=[KKnown289,KKnown290]) (.cons kKnown289 (.cons kKnown290 .nil)) 3000 (by kernel_rfl)
def KKnown292:CF:=⟨86,[.agg ⟨[vJ 28,vI 29,vI 0,vI 0,vI 17240,vI 17240]⟩,vI 2000000000],vT⟩
theorem kKnown292:KKnown292.Ok Try.prog:=CF.of2 noNG mixed (l:=[]) .nil 3000 (by kernel_rfl)
def KKnown293:CF:=⟨86,[.agg ⟨[vJ 1,vI 2,vI 0,vI 0,vI 530,vI 530]⟩,vI 1000000],vT⟩
theorem kKnown293:KKnown293.Ok Try.prog:=CF.of2 noNG mixed (l:=[]) .nil 3000 (by kernel_rfl)
def KKnown294:CF:=⟨68,[.agg wKnown23],vF⟩
theorem kKnown294:KKnown294.Ok Try.prog:=CF.of2 noNG mixed (l:=[KKnown292,KKnown293]) (.cons kKnown292 (.cons kKnown293 .nil)) 3000 (by kernel_rfl)
def KKnown296:CF:=⟨70,[lstV wKnown0 0 1 13,vI 15],.agg ⟨[vI 0,vI 0,vI 0,vI 10,vI 10,vI 0,vI 0,vI 0,vI 0,vI 0,vI 0,vI 0,vI 0]⟩⟩
theorem kKnown296:KKnown296.Ok Try.prog:=CF.of2 noNG mixed (l:=[]) .nil 3000 (by kernel_rfl)
def KKnown297:CF:=⟨55,[lstV wKnown2 0 2 7,.agg ⟨[vI 17240,vI 17240]⟩,.func (.func 57) ⟨[]⟩ ⟨[]⟩],.agg ⟨[vI 300,vI 300,vI 0,vI 0,vI 0,vI 0]⟩⟩
theorem kKnown297:KKnown297.Ok Try.prog:=CF.of2 noNG mixed (l:=[]) .nil 3000 (by kernel_rfl)
def KKnown298:CF:=⟨91,[.agg ⟨[vJ 1,vI 2,vI 0,vI 0,vI 530,vI 530]⟩,.func (.func 98) ⟨[]⟩ ⟨[]⟩,.agg ⟨[vI 300,vI 300,vI 0,vI 0,vI 0,vI 0]⟩],.agg ⟨[vJ 301,vJ 297,vI 0,vI 0,vI 530,vI 530]⟩⟩
theorem kKnown298:KKnown298.Ok Try.prog:=CF.of2 noNG mixed (l:=[]) .nil 3000 (by kernel_rfl)
def KKnown299:CF:=⟨125,[.agg ⟨[vI 369704,vI 372104]⟩],.agg ⟨[vI 608,vI 611]⟩⟩
theorem kKnown299:KKnown299.Ok Try.prog:=CF.of2 noNG mixed (l:=[]) .nil 3000 (by kernel_rfl)
def KKnown300:CF:=⟨116,[.agg ⟨[vJ 301,vJ 297,vI 0,vI 0,vI 530,vI 530]⟩],.agg ⟨[vI 608,vI 611]⟩⟩
theorem kKnown300:KKnown300.Ok Try.prog:=CF.of2 noNG mixed (l:=[KKnown299]) (.cons kKnown299 .nil) 3000 (by kernel_rfl)
def KKnown301:CF:=⟨91,[.agg ⟨[vJ 301,vJ 297,vI 0,vI 0,vI 530,vI 530]⟩,.func (.func 111) ⟨[]⟩ ⟨[]⟩,.agg ⟨[vI 0,vI 0,vI 0,vI 0,vI 0,vI 0]⟩],.agg ⟨[vI 0,vI 0,vI 0,vI 0,vI 0,vI 0]⟩⟩
theorem kKnown301:KKnown301.Ok Try.prog:=CF.of2 noNG mixed (l:=[]) .nil 3000 (by kernel_rfl)
def KKnown302:CF:=⟨112,[.agg ⟨[vJ 301,vJ 297,vI 0,vI 0,vI 530,vI 530]⟩,.func (.func 111) ⟨[]⟩ ⟨[]⟩,.agg ⟨[vI 0,vI 0]⟩],.agg ⟨[vI 0,vI 0,vI 0,vI 0,vI 0,vI 0]⟩⟩
theorem kKnown302:KKnown302.Ok Try.prog:=CF.of2 noNG mixed (l:=[KKnown301]) (.cons kKnown301 .nil) 3000 (by kernel_rfl)
def KKnown303:CF:=⟨99,[.agg wKnown5,.agg ⟨[vI 0,vI 0,vI 0,vI 10,vI 10,vI 0,vI 0,vI 0,vI 0,vI 0,vI 0,vI 0,vI 0]⟩,.agg wKnown23],.agg ⟨[vI 0,vI 0,vI 0,vI 0,vI 0,vI 0]⟩⟩
theorem kKnown303:KKnown303.Ok Try.prog:=CF.of2 noNG mixed (l:=[KKnown297,KKnown298,KKnown300,KKnown302,KKnown27]) (.cons kKnown297 (.cons kKnown298 (.cons kKnown300 (.cons kKnown302 (.cons kKnown27 .nil))))) 3000 (by kernel_rfl)
def KKnown304:CF:=⟨69,[.agg wKnown5,.agg ⟨[vI 0,vI 0,vI 0,vI 10,vI 10,vI 0,vI 0,vI 0,vI 0,vI 0,vI 0,vI 0,vI 0]⟩,.agg wKnown23],.agg ⟨[vI 0,vI 0,vI 0,vI 0,vJ 97,vJ 97]⟩⟩
theorem kKnown304:KKnown304.Ok Try.prog:=CF.of2 noNG mixed (l:=[KKnown40,KKnown41,KKnown77,KKnown303]) (.cons kKnown40 (.cons kKnown41 (.cons kKnown77 (.cons kKnown303 .nil)))) 3000 (by kernel_rfl)
def KKnown305:CF:=⟨91,[.agg ⟨[vJ 1,vI 2,vI 0,vI 0,vI 530,vI 530]⟩,.func (.func 105) ⟨[]⟩ ⟨[]⟩,.agg ⟨[vI 0,vI 0,vI 0,vI 0,vJ 97,vJ 97]⟩],.agg ⟨[vJ 1,vI 2,vI 0,vI 0,vI 432,vI 432]⟩⟩
theorem kKnown305:KKnown305.Ok Try.prog:=CF.of2 noNG mixed (l:=[]) .nil 3000 (by kernel_rfl)
def KKnown306:CF:=⟨91,[.agg ⟨[vJ 28,vI 29,vI 0,vI 0,vI 17240,vI 17240]⟩,.func (.func 105) ⟨[]⟩ ⟨[]⟩,.agg ⟨[vJ 1,vI 2,vI 0,vI 0,vI 432,vI 432]⟩],.agg ⟨[vJ 30,vI 31,vI 0,vI 0,vI 17672,vI 17672]⟩⟩
theorem kKnown306:KKnown306.Ok Try.prog:=CF.of2 noNG mixed (l:=[]) .nil 3000 (by kernel_rfl)
def KKnown307:CF:=⟨119,[.agg wKnown23,.agg ⟨[vI 0,vI 0,vI 0,vI 0,vJ 97,vJ 97]⟩],.agg wKnown24⟩
theorem kKnown307:KKnown307.Ok Try.prog:=CF.of2 noNG mixed (l:=[KKnown305,KKnown306]) (.cons kKnown305 (.cons kKnown306 .nil)) 3000 (by kernel_rfl)
def KKnown308:CF:=⟨86,[.agg ⟨[vJ 30,vI 31,vI 0,vI 0,vI 17672,vI 17672]⟩,vI 2000000000],vT⟩
theorem kKnown308:KKnown308.Ok Try.prog:=CF.of2 noNG mixed (l:=[]) .nil 3000 (by kernel_rfl)
def KKnown309:CF:=⟨86,[.agg ⟨[vJ 1,vI 2,vI 0,vI 0,vI 432,vI 432]⟩,vI 1000000],vT⟩
theorem kKnown309:KKnown309.Ok Try.prog:=CF.of2 noNG mixed (l:=[]) .nil 3000 (by kernel_rfl)
def KKnown310:CF:=⟨68,[.agg wKnown24],vF⟩
theorem kKnown310:KKnown310.Ok Try.prog:=CF.of2 noNG mixed (l:=[KKnown308,KKnown309]) (.cons kKnown308 (.cons kKnown309 .nil)) 3000 (by kernel_rfl)
def KKnown312:CF:=⟨70,[lstV wKnown0 0 1 13,vI 16],.agg ⟨[vI 0,vI 0,vI 0,vI 10,vI 10,vI 0,vI 0,vI 0,vI 0,vI 0,vI 0,vI 0,vI 0]⟩⟩
theorem kKnown312:KKnown312.Ok Try.prog:=CF.of2 noNG mixed (l:=[]) .nil 3000 (by kernel_rfl)
def KKnown313:CF:=⟨55,[lstV wKnown2 0 2 7,.agg ⟨[vI 17672,vI 17672]⟩,.func (.func 57) ⟨[]⟩ ⟨[]⟩],.agg ⟨[vI 300,vI 300,vI 0,vI 0,vI 0,vI 0]⟩⟩
theorem kKnown313:KKnown313.Ok Try.prog:=CF.of2 noNG mixed (l:=[]) .nil 3000 (by kernel_rfl)
def KKnown314:CF:=⟨91,[.agg ⟨[vJ 1,vI 2,vI 0,vI 0,vI 432,vI 432]⟩,.func (.func 98) ⟨[]⟩ ⟨[]⟩,.agg ⟨[vI 300,vI 300,vI 0,vI 0,vI 0,vI 0]⟩],.agg ⟨[vJ 301,vJ 297,vI 0,vI 0,vI 432,vI 432]⟩⟩
theorem kKnown314:KKnown314.Ok Try.prog:=CF.of2 noNG mixed (l:=[]) .nil 3000 (by kernel_rfl)
end
end Go.Proofs.Ytnmjibcolnlkjaa
